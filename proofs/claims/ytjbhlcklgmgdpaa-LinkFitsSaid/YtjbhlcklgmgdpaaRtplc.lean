/-
 The reference of layer 14 (routes): where a group lies on the routes, the grades at some places. Conditions: a track that may be, at most 16 routes over its segments.
-/
import Derived.Test.YtjbhlcklgmgdpaaMrt
import Derived.Test.YtjbhlcklgmgdpaaRtref
import Derived.Test.YtjbhlcklgmgdpaaGref
namespace Go.Proofs.Ytjbhlcklgmgdpaa.Rtplc
open Go.ChangeShapes Go.WideShapes Go.ChangeAt Go.RowKit
open Arr Steady Sx Sw Sl Sb Sc Si Sj Sk Sh Vs Gr Tk Tkh Tkl Rt Rtm Rtg Rtp Rtref
set_option linter.unusedVariables false
set_option linter.unusedSimpArgs false
set_option maxRecDepth 100000

theorem has_pz {s : Own} {n : Nat} {O : List Int} {x : Int} {ys : List Value} (h : s.Has 1 n (flat enc1 O ++ [.int .i64 x] ++ ys)) : s.Has 1 n (flat enc1 (O ++ [x]) ++ ys) := by
 rwa [flat_append, show flat enc1 [x] = [.int .i64 x] by simp [flat, enc1]]
set_option maxHeartbeats 4000000 in
theorem add_any (L : List Int) (x : Int) (p : Option Addr) (c : Nat) (w : World) (hL : Reads w p (flat enc1 L)) (hn : L.length ≤ 1048576) :
  Calls Try.prog 33 #[.slice p L.length c, .int .i64 x] w fun e w' => ∃ s : Own, s.Has 1 (ins ltZ x L).length (flat enc1 (ins ltZ x L)) ∧ e = .returned (s.val (ins ltZ x L).length) ∧ Env w w' (s.rows 2) := by
 refine calls_sx Try.func33 rfl ?_
 simp only [Try.ntmps33, List.size_toArray, List.length_cons, List.length_nil, Nat.reduceAdd, Nat.reduceSub, Array.replicate_succ, Array.replicate_zero, List.push_toArray, List.append_toArray, List.nil_append, List.cons_append]
 refine wc_seq ?_
 refine wc_region ?_
 refine wl_val (.slice none 0 0) rfl (fun _ => rfl) ?_
 simp only [Act.put, Xa, Xz, Xs]
 refine wl_nil ?_
 refine we_then ?_
 refine wc_seq ?_
 refine wc_region ?_
 refine wl_val (.slice none 0 0) rfl (fun _ => rfl) ?_
 simp only [Act.put, Xa, Xz, Xs]
 refine wl_nil ?_
 refine we_then ?_
 refine wc_seq ?_
 refine wc_region ?_
 refine wl_val (.bool false) rfl (fun _ => rfl) ?_
 simp only [Act.put, Xa, Xz, Xs]
 refine wl_nil ?_
 refine we_then ?_
 refine wc_seq ?_
 refine wc_seq ?_
 refine wc_region ?_
 refine wl_val (.int .i64 0) rfl (fun _ => rfl) ?_
 simp only [Act.put, Xa, Xz, Xs]
 refine wl_nil ?_
 refine we_then ?_
 refine wc_block ?_
 refine wc_loop (fun (zz : Nat × Bool × Nat × Own × List Int × Value × Value × Value × Value × Value × Value × Value × Value × Value × Value × Value × Value × Value × Value × Value × Value × Value × Value × Value × Value × Value × Value × Value × Value × Value × Value × Value × Value × Value × Value × Value × Value × Value) => match zz with | ⟨i, f, m, s, O, u8, u9, u10, u11, u12, u13, u14, u15, u16, u17, u18, u19, u20, u21, u22, u23, u24, u25, u26, u27, u28, u29, u30, u31, u32, u33, u34, u35, u36, u37, u38, u39, u40⟩ => ({ tmps := #[.slice p L.length c, .int .i64 x, undef, undef, .slice none 0 0, .slice s.ptr m s.cap, .bool f, .int .i64 (i : Int), u8, u9, u10, u11, u12, u13, u14, u15, u16, u17, u18, u19, u20, u21, u22, u23, u24, u25, u26, u27, u28, u29, u30, u31, u32, u33, u34, u35, u36, u37, u38, u39, u40, undef, undef, undef, undef, undef, undef, undef], defers := [] } : Act)) (fun (zz : Nat × Bool × Nat × Own × List Int × Value × Value × Value × Value × Value × Value × Value × Value × Value × Value × Value × Value × Value × Value × Value × Value × Value × Value × Value × Value × Value × Value × Value × Value × Value × Value × Value × Value × Value × Value × Value × Value × Value) => match zz with | ⟨i, f, m, s, O, u8, u9, u10, u11, u12, u13, u14, u15, u16, u17, u18, u19, u20, u21, u22, u23, u24, u25, u26, u27, u28, u29, u30, u31, u32, u33, u34, u35, u36, u37, u38, u39, u40⟩ => (s.rows 2 ++ [])) (fun (zz : Nat × Bool × Nat × Own × List Int × Value × Value × Value × Value × Value × Value × Value × Value × Value × Value × Value × Value × Value × Value × Value × Value × Value × Value × Value × Value × Value × Value × Value × Value × Value × Value × Value × Value × Value × Value × Value × Value × Value) => match zz with | ⟨i, f, m, s, O, u8, u9, u10, u11, u12, u13, u14, u15, u16, u17, u18, u19, u20, u21, u22, u23, u24, u25, u26, u27, u28, u29, u30, u31, u32, u33, u34, u35, u36, u37, u38, u39, u40⟩ => i ≤ L.length ∧ (f, O) = pst ltZ x (L.take i) ∧ O.length = m ∧ s.Has 1 m (flat enc1 O)) (fun (zz : Nat × Bool × Nat × Own × List Int × Value × Value × Value × Value × Value × Value × Value × Value × Value × Value × Value × Value × Value × Value × Value × Value × Value × Value × Value × Value × Value × Value × Value × Value × Value × Value × Value × Value × Value × Value × Value × Value × Value) => match zz with | ⟨i, f, m, s, O, u8, u9, u10, u11, u12, u13, u14, u15, u16, u17, u18, u19, u20, u21, u22, u23, u24, u25, u26, u27, u28, u29, u30, u31, u32, u33, u34, u35, u36, u37, u38, u39, u40⟩ => L.length - i) ⟨0, false, 0, Own.none, [], _, _, _, _, _, _, _, _, _, _, _, _, _, _, _, _, _, _, _, _, _, _, _, _, _, _, _, _, _, _, _, _, _⟩ ⟨Nat.zero_le _, rfl, rfl, Own.has_none 1⟩ rfl List.Sublist.slnil ?_
 rintro ⟨i, f, m, s, O, u8, u9, u10, u11, u12, u13, u14, u15, u16, u17, u18, u19, u20, u21, u22, u23, u24, u25, u26, u27, u28, u29, u30, u31, u32, u33, u34, u35, u36, u37, u38, u39, u40⟩ hφ
 (try dsimp only at hφ ⊢)
 obtain ⟨b1, b2, bm, b3⟩ := hφ
 have b4 := pst_len ltZ x (L.take i)
 rw [← b2, List.length_take] at b4
 dsimp only at b4
 refine wc_seq ?_
 refine wc_seq ?_
 refine wc_region ?_
 refine wl_val (.int .i64 (i : Int)) rfl (fun _ => rfl) ?_
 simp only [Act.put, Xa, Xz, Xs]
 refine wl_val (.slice p L.length c) rfl (fun _ => rfl) ?_
 simp only [Act.put, Xa, Xz, Xs]
 refine wl_val (.int .i64 (L.length : Int)) rfl (fun w => er_len rfl rfl Try.underlying46 w) ?_
 simp only [Act.put, Xa, Xz, Xs]
 refine wl_val (.bool (decide ((i : Int) < (L.length : Int)))) rfl (fun w => run_cmp rfl rfl rfl Try.underlying3 rfl w) ?_
 simp only [Act.put, Xa, Xz, Xs]
 refine wl_nil ?_
 refine we_then ?_
 cases h1 : (decide ((i : Int) < (L.length : Int)))
 ·
  skip
  have p1 : ¬ ((i : Int) < (L.length : Int)) := of_decide_eq_false h1
  refine wc_false rfl ?_
  refine wc_exit ?_
  refine we_then_exit ?_
  refine we_then_exit ?_
  refine we_in_here ?_
  refine we_then ?_
  refine wc_seq ?_
  refine wc_seq ?_
  refine wc_region ?_
  refine wl_val (.bool f) rfl (fun _ => rfl) ?_
  simp only [Act.put, Xa, Xz, Xs]
  refine wl_val (.bool (!f)) rfl (fun _ => by go_simp) ?_
  simp only [Act.put, Xa, Xz, Xs]
  refine wl_nil ?_
  refine we_then ?_
  cases h2 : (f)
  ·
   skip
   refine wc_true rfl ?_
   refine wc_region ?_
   refine wl_val (.slice s.ptr m s.cap) rfl (fun _ => rfl) ?_
   simp only [Act.put, Xa, Xz, Xs]
   refine wl_val (.int .i64 x) rfl (fun _ => rfl) ?_
   simp only [Act.put, Xa, Xz, Xs]
   refine wl_lit (e := 2) #[.int .i64 x] 1 rfl (fun _ => by go_simp) ?_
   intro g3
   simp only [Act.put, Xa, Xz, Xs]
   refine wl_append (e := 2) (size := 1) (bytes := 8) (m := 1) [⟨g3, #[.int .i64 x], 2⟩] [] s (ys := [.int .i64 x]) rfl b3 (sl_row 0 rfl) rfl (by simp [Value.oneCell']) rfl rfl rfl rfl Try.underlying46 (by unfold Elem; kernel_rfl) (by decide) (by unfold maxLen; omega) (by omega) ?_
   intro s4 hs4
   simp only [List.cons_append, List.nil_append, Act.put, Xa, Xz, Xs]
   refine wl_val (.slice s4.ptr (m + 1) s4.cap) rfl (fun _ => rfl) ?_
   simp only [Act.put, Xa, Xz, Xs]
   refine wl_nil ?_
   refine we_then ?_
   refine wc_seq ?_
   refine wc_region ?_
   refine wl_val (.slice s4.ptr (m + 1) s4.cap) rfl (fun _ => rfl) ?_
   simp only [Act.put, Xa, Xz, Xs]
   refine wl_val (.slice s4.ptr (m + 1) s4.cap) rfl (fun _ => rfl) ?_
   simp only [Act.put, Xa, Xz, Xs]
   refine wl_nil ?_
   refine we_then ?_
   refine wc_ret ?_
   refine we_ret1 (.slice s4.ptr (m + 1) s4.cap) rfl rfl rfl (fun w1 hE => ?_)
   have e1 : i = L.length := by omega
   subst e1
   have e2 := pst_ins ltZ x L
   rw [List.take_length] at b2
   rw [← b2, h2] at e2
   simp only [Bool.false_eq_true, if_false] at e2
   exact ⟨s4, e2 ▸ has_len (has_snoc (x := x) hs4) (by simp [bm]), by rw [← e2, List.length_append, bm]; rfl, Env.tail hE (List.Sublist.cons _ (List.Sublist.append_left List.Sublist.slnil _))⟩
  ·
   skip
   refine wc_false rfl ?_
   refine wc_skip ?_
   refine we_then ?_
   refine wc_seq ?_
   refine wc_region ?_
   refine wl_val (.slice s.ptr m s.cap) rfl (fun _ => rfl) ?_
   simp only [Act.put, Xa, Xz, Xs]
   refine wl_val (.slice s.ptr m s.cap) rfl (fun _ => rfl) ?_
   simp only [Act.put, Xa, Xz, Xs]
   refine wl_nil ?_
   refine we_then ?_
   refine wc_ret ?_
   refine we_ret1 (.slice s.ptr m s.cap) rfl rfl rfl (fun w1 hE => ?_)
   have e1 : i = L.length := by omega
   subst e1
   have e2 := pst_ins ltZ x L
   rw [List.take_length] at b2
   rw [← b2, h2] at e2
   simp only [if_true] at e2
   exact ⟨s, e2 ▸ has_len b3 bm.symm, by rw [← e2, bm], Env.tail hE (List.Sublist.append_left List.Sublist.slnil _)⟩
 ·
  skip
  have p1 : (i : Int) < (L.length : Int) := of_decide_eq_true h1
  refine wc_true rfl ?_
  refine wc_skip ?_
  refine we_then ?_
  refine wc_seq ?_
  refine wc_block ?_
  refine wc_seq ?_
  refine wc_seq ?_
  refine wc_region ?_
  refine wl_val (.bool f) rfl (fun _ => rfl) ?_
  simp only [Act.put, Xa, Xz, Xs]
  refine wl_val (.bool (!f)) rfl (fun _ => by go_simp) ?_
  simp only [Act.put, Xa, Xz, Xs]
  refine wl_val (.bool (!f)) rfl (fun _ => rfl) ?_
  simp only [Act.put, Xa, Xz, Xs]
  cases h5 : (f)
  ·
   skip
   refine wl_val (.slice p L.length c) rfl (fun _ => rfl) ?_
   simp only [Act.put, Xa, Xz, Xs]
   refine wl_val (.int .i64 (i : Int)) rfl (fun _ => rfl) ?_
   simp only [Act.put, Xa, Xz, Xs]
   refine wl_read (eaddr p (i * 1)) rfl (er_index i 1 (sl_old hL) rfl rfl rfl rfl (by omega) (flat_length (enc := enc1) (size := 1) (fun _ => rfl) _) (by decide) Try.underlying46 (by kernel_rfl)) ?_
   simp only [Act.put, Xa, Xz, Xs]
   refine wl_read (.int .i64 (L[i]!)) rfl (er_cell (i * 1) (.int .i64 (L[i]!)) (sl_old hL) rfl rfl (flat_cell (enc := enc1) (fun _ => rfl) L i 0 (by omega) (by decide)) Try.isAgg2) ?_
   simp only [Act.put, Xa, Xz, Xs]
   refine wl_val (.int .i64 x) rfl (fun _ => rfl) ?_
   simp only [Act.put, Xa, Xz, Xs]
   refine wl_val (.bool (decide (x ≤ (L[i]!)))) rfl (fun w => run_cmp rfl rfl rfl Try.underlying2 rfl w) ?_
   simp only [Act.put, Xa, Xz, Xs]
   refine wl_val (.bool (decide (x ≤ (L[i]!)))) rfl (fun _ => rfl) ?_
   simp only [Act.put, Xa, Xz, Xs]
   refine wl_nil ?_
   refine we_then ?_
   cases h6 : (decide (x ≤ (L[i]!)))
   ·
    skip
    have p6 : ¬ (x ≤ (L[i]!)) := of_decide_eq_false h6
    refine wc_false rfl ?_
    refine wc_skip ?_
    refine we_then ?_
    refine wc_region ?_
    refine wl_val (.slice s.ptr m s.cap) rfl (fun _ => rfl) ?_
    simp only [Act.put, Xa, Xz, Xs]
    refine wl_val (.slice p L.length c) rfl (fun _ => rfl) ?_
    simp only [Act.put, Xa, Xz, Xs]
    refine wl_val (.int .i64 (i : Int)) rfl (fun _ => rfl) ?_
    simp only [Act.put, Xa, Xz, Xs]
    refine wl_read (eaddr p (i * 1)) rfl (er_index i 1 (sl_old hL) rfl rfl rfl rfl (by omega) (flat_length (enc := enc1) (size := 1) (fun _ => rfl) _) (by decide) Try.underlying46 (by kernel_rfl)) ?_
    simp only [Act.put, Xa, Xz, Xs]
    refine wl_read (.int .i64 (L[i]!)) rfl (er_cell (i * 1) (.int .i64 (L[i]!)) (sl_old hL) rfl rfl (flat_cell (enc := enc1) (fun _ => rfl) L i 0 (by omega) (by decide)) Try.isAgg2) ?_
    simp only [Act.put, Xa, Xz, Xs]
    refine wl_lit (e := 2) #[.int .i64 (L[i]!)] 1 rfl (fun _ => by go_simp) ?_
    intro g7
    simp only [Act.put, Xa, Xz, Xs]
    refine wl_append (e := 2) (size := 1) (bytes := 8) (m := 1) [⟨g7, #[.int .i64 (L[i]!)], 2⟩] [] s (ys := [.int .i64 (L[i]!)]) rfl b3 (sl_row 0 rfl) rfl (by simp [Value.oneCell']) rfl rfl rfl rfl Try.underlying46 (by unfold Elem; kernel_rfl) (by decide) (by unfold maxLen; omega) (by omega) ?_
    intro s8 hs8
    simp only [List.cons_append, List.nil_append, Act.put, Xa, Xz, Xs]
    refine wl_val (.slice s8.ptr (m + 1) s8.cap) rfl (fun _ => rfl) ?_
    simp only [Act.put, Xa, Xz, Xs]
    refine wl_nil ?_
    refine we_in ?_
    refine we_then ?_
    refine wc_region ?_
    refine wl_val (.int .i64 (i : Int)) rfl (fun _ => rfl) ?_
    simp only [Act.put, Xa, Xz, Xs]
    refine wl_val (.int .i64 ((i + 1 : Nat) : Int)) rfl (fun w => run_nat (X := i) (Y := 1) (Z := i + 1) rfl rfl rfl rfl (by omega) w) ?_
    simp only [Act.put, Xa, Xz, Xs]
    refine wl_val (.int .i64 ((i + 1 : Nat) : Int)) rfl (fun _ => rfl) ?_
    simp only [Act.put, Xa, Xz, Xs]
    refine wl_nil ?_
    exact we_meet ⟨(i + 1), false, (m + 1), s8, (O ++ [L[i]!]), _, _, _, _, _, _, _, _, _, _, _, _, _, _, _, _, _, _, _, _, _, _, _, _, _, _, _, _, _, _, _, _, _⟩ (by (try dsimp only); have g1 : ltZ L[i]! x = true := decide_eq_true (by omega); have e3 : pst ltZ x (L.take (i + 1)) = (false, (O ++ [L[i]!])) := (by rw [pst_snoc ltZ x L (by omega), ← b2]; unfold pstep; rw [if_neg (by rw [g1]; simp)]; rw [h5]); exact ⟨⟨by omega, e3.symm, by simp [bm], has_snoc (x := L[i]!) hs8⟩, by omega⟩) rfl (List.Sublist.cons _ (List.Sublist.append_left List.Sublist.slnil _))
   ·
    skip
    have p6 : x ≤ (L[i]!) := of_decide_eq_true h6
    refine wc_true rfl ?_
    refine wc_seq ?_
    refine wc_seq ?_
    refine wc_region ?_
    refine wl_val (.slice p L.length c) rfl (fun _ => rfl) ?_
    simp only [Act.put, Xa, Xz, Xs]
    refine wl_val (.int .i64 (i : Int)) rfl (fun _ => rfl) ?_
    simp only [Act.put, Xa, Xz, Xs]
    refine wl_read (eaddr p (i * 1)) rfl (er_index i 1 (sl_old hL) rfl rfl rfl rfl (by omega) (flat_length (enc := enc1) (size := 1) (fun _ => rfl) _) (by decide) Try.underlying46 (by kernel_rfl)) ?_
    simp only [Act.put, Xa, Xz, Xs]
    refine wl_read (.int .i64 (L[i]!)) rfl (er_cell (i * 1) (.int .i64 (L[i]!)) (sl_old hL) rfl rfl (flat_cell (enc := enc1) (fun _ => rfl) L i 0 (by omega) (by decide)) Try.isAgg2) ?_
    simp only [Act.put, Xa, Xz, Xs]
    refine wl_val (.int .i64 x) rfl (fun _ => rfl) ?_
    simp only [Act.put, Xa, Xz, Xs]
    refine wl_val (.bool (decide (x < (L[i]!)))) rfl (fun w => run_cmp rfl rfl rfl Try.underlying2 rfl w) ?_
    simp only [Act.put, Xa, Xz, Xs]
    refine wl_nil ?_
    refine we_then ?_
    cases h9 : (decide (x < (L[i]!)))
    ·
     skip
     have p9 : ¬ (x < (L[i]!)) := of_decide_eq_false h9
     refine wc_false rfl ?_
     refine wc_skip ?_
     refine we_then ?_
     refine wc_region ?_
     refine wl_val (.bool true) rfl (fun _ => rfl) ?_
     simp only [Act.put, Xa, Xz, Xs]
     refine wl_nil ?_
     refine we_then ?_
     refine wc_region ?_
     refine wl_val (.slice s.ptr m s.cap) rfl (fun _ => rfl) ?_
     simp only [Act.put, Xa, Xz, Xs]
     refine wl_val (.slice p L.length c) rfl (fun _ => rfl) ?_
     simp only [Act.put, Xa, Xz, Xs]
     refine wl_val (.int .i64 (i : Int)) rfl (fun _ => rfl) ?_
     simp only [Act.put, Xa, Xz, Xs]
     refine wl_read (eaddr p (i * 1)) rfl (er_index i 1 (sl_old hL) rfl rfl rfl rfl (by omega) (flat_length (enc := enc1) (size := 1) (fun _ => rfl) _) (by decide) Try.underlying46 (by kernel_rfl)) ?_
     simp only [Act.put, Xa, Xz, Xs]
     refine wl_read (.int .i64 (L[i]!)) rfl (er_cell (i * 1) (.int .i64 (L[i]!)) (sl_old hL) rfl rfl (flat_cell (enc := enc1) (fun _ => rfl) L i 0 (by omega) (by decide)) Try.isAgg2) ?_
     simp only [Act.put, Xa, Xz, Xs]
     refine wl_lit (e := 2) #[.int .i64 (L[i]!)] 1 rfl (fun _ => by go_simp) ?_
     intro g10
     simp only [Act.put, Xa, Xz, Xs]
     refine wl_append (e := 2) (size := 1) (bytes := 8) (m := 1) [⟨g10, #[.int .i64 (L[i]!)], 2⟩] [] s (ys := [.int .i64 (L[i]!)]) rfl b3 (sl_row 0 rfl) rfl (by simp [Value.oneCell']) rfl rfl rfl rfl Try.underlying46 (by unfold Elem; kernel_rfl) (by decide) (by unfold maxLen; omega) (by omega) ?_
     intro s11 hs11
     simp only [List.cons_append, List.nil_append, Act.put, Xa, Xz, Xs]
     refine wl_val (.slice s11.ptr (m + 1) s11.cap) rfl (fun _ => rfl) ?_
     simp only [Act.put, Xa, Xz, Xs]
     refine wl_nil ?_
     refine we_in ?_
     refine we_then ?_
     refine wc_region ?_
     refine wl_val (.int .i64 (i : Int)) rfl (fun _ => rfl) ?_
     simp only [Act.put, Xa, Xz, Xs]
     refine wl_val (.int .i64 ((i + 1 : Nat) : Int)) rfl (fun w => run_nat (X := i) (Y := 1) (Z := i + 1) rfl rfl rfl rfl (by omega) w) ?_
     simp only [Act.put, Xa, Xz, Xs]
     refine wl_val (.int .i64 ((i + 1 : Nat) : Int)) rfl (fun _ => rfl) ?_
     simp only [Act.put, Xa, Xz, Xs]
     refine wl_nil ?_
     exact we_meet ⟨(i + 1), true, (m + 1), s11, (O ++ [L[i]!]), _, _, _, _, _, _, _, _, _, _, _, _, _, _, _, _, _, _, _, _, _, _, _, _, _, _, _, _, _, _, _, _, _⟩ (by (try dsimp only); have g1 : ltZ L[i]! x = false := decide_eq_false (by omega); have g2 : ¬ ltZ x L[i]! = true := (by rw [decide_eq_true_iff]; omega); have e3 : pst ltZ x (L.take (i + 1)) = (true, (O ++ [L[i]!])) := (by rw [pst_snoc ltZ x L (by omega), ← b2]; unfold pstep; rw [if_pos ⟨h5, g1⟩, if_neg g2, List.append_nil]); exact ⟨⟨by omega, e3.symm, by simp [bm], has_snoc (x := L[i]!) hs11⟩, by omega⟩) rfl (List.Sublist.cons _ (List.Sublist.append_left List.Sublist.slnil _))
    ·
     skip
     have p9 : x < (L[i]!) := of_decide_eq_true h9
     refine wc_true rfl ?_
     refine wc_region ?_
     refine wl_val (.slice s.ptr m s.cap) rfl (fun _ => rfl) ?_
     simp only [Act.put, Xa, Xz, Xs]
     refine wl_val (.int .i64 x) rfl (fun _ => rfl) ?_
     simp only [Act.put, Xa, Xz, Xs]
     refine wl_lit (e := 2) #[.int .i64 x] 1 rfl (fun _ => by go_simp) ?_
     intro g12
     simp only [Act.put, Xa, Xz, Xs]
     refine wl_append (e := 2) (size := 1) (bytes := 8) (m := 1) [⟨g12, #[.int .i64 x], 2⟩] [] s (ys := [.int .i64 x]) rfl b3 (sl_row 0 rfl) rfl (by simp [Value.oneCell']) rfl rfl rfl rfl Try.underlying46 (by unfold Elem; kernel_rfl) (by decide) (by unfold maxLen; omega) (by omega) ?_
     intro s13 hs13
     simp only [List.cons_append, List.nil_append, Act.put, Xa, Xz, Xs]
     refine wl_val (.slice s13.ptr (m + 1) s13.cap) rfl (fun _ => rfl) ?_
     simp only [Act.put, Xa, Xz, Xs]
     refine wl_nil ?_
     refine we_then ?_
     refine wc_region ?_
     refine wl_val (.bool true) rfl (fun _ => rfl) ?_
     simp only [Act.put, Xa, Xz, Xs]
     refine wl_nil ?_
     refine we_then ?_
     refine wc_region ?_
     refine wl_val (.slice s13.ptr (m + 1) s13.cap) rfl (fun _ => rfl) ?_
     simp only [Act.put, Xa, Xz, Xs]
     refine wl_val (.slice p L.length c) rfl (fun _ => rfl) ?_
     simp only [Act.put, Xa, Xz, Xs]
     refine wl_val (.int .i64 (i : Int)) rfl (fun _ => rfl) ?_
     simp only [Act.put, Xa, Xz, Xs]
     refine wl_read (eaddr p (i * 1)) rfl (er_index i 1 (sl_old hL) rfl rfl rfl rfl (by omega) (flat_length (enc := enc1) (size := 1) (fun _ => rfl) _) (by decide) Try.underlying46 (by kernel_rfl)) ?_
     simp only [Act.put, Xa, Xz, Xs]
     refine wl_read (.int .i64 (L[i]!)) rfl (er_cell (i * 1) (.int .i64 (L[i]!)) (sl_old hL) rfl rfl (flat_cell (enc := enc1) (fun _ => rfl) L i 0 (by omega) (by decide)) Try.isAgg2) ?_
     simp only [Act.put, Xa, Xz, Xs]
     refine wl_lit (e := 2) #[.int .i64 (L[i]!)] 1 rfl (fun _ => by go_simp) ?_
     intro g14
     simp only [Act.put, Xa, Xz, Xs]
     refine wl_append (e := 2) (size := 1) (bytes := 8) (m := 1) [⟨g14, #[.int .i64 (L[i]!)], 2⟩, ⟨g12, #[.int .i64 x], 2⟩] [] s13 (ys := [.int .i64 (L[i]!)]) rfl hs13 (sl_row 0 rfl) rfl (by simp [Value.oneCell']) rfl rfl rfl rfl Try.underlying46 (by unfold Elem; kernel_rfl) (by decide) (by unfold maxLen; omega) (by omega) ?_
     intro s15 hs15
     simp only [List.cons_append, List.nil_append, Act.put, Xa, Xz, Xs]
     refine wl_val (.slice s15.ptr (m + 1 + 1) s15.cap) rfl (fun _ => rfl) ?_
     simp only [Act.put, Xa, Xz, Xs]
     refine wl_nil ?_
     refine we_in ?_
     refine we_then ?_
     refine wc_region ?_
     refine wl_val (.int .i64 (i : Int)) rfl (fun _ => rfl) ?_
     simp only [Act.put, Xa, Xz, Xs]
     refine wl_val (.int .i64 ((i + 1 : Nat) : Int)) rfl (fun w => run_nat (X := i) (Y := 1) (Z := i + 1) rfl rfl rfl rfl (by omega) w) ?_
     simp only [Act.put, Xa, Xz, Xs]
     refine wl_val (.int .i64 ((i + 1 : Nat) : Int)) rfl (fun _ => rfl) ?_
     simp only [Act.put, Xa, Xz, Xs]
     refine wl_nil ?_
     exact we_meet ⟨(i + 1), true, (m + 1 + 1), s15, (O ++ [x] ++ [L[i]!]), _, _, _, _, _, _, _, _, _, _, _, _, _, _, _, _, _, _, _, _, _, _, _, _, _, _, _, _, _, _, _, _, _⟩ (by (try dsimp only); have g1 : ltZ L[i]! x = false := decide_eq_false (by omega); have g2 : ltZ x L[i]! = true := decide_eq_true (by omega); have e3 : pst ltZ x (L.take (i + 1)) = (true, (O ++ [x] ++ [L[i]!])) := (by rw [pst_snoc ltZ x L (by omega), ← b2]; unfold pstep; rw [if_pos ⟨h5, g1⟩, if_pos g2]); exact ⟨⟨by omega, e3.symm, by simp [bm], has_snoc (x := L[i]!) (L := O ++ [x]) (has_pz (x := x) hs15)⟩, by omega⟩) rfl (List.Sublist.cons _ (List.Sublist.cons _ (List.Sublist.append_left List.Sublist.slnil _)))
  ·
   skip
   refine wl_skip rfl ?_
   simp only [Act.put, Xa, Xz, Xs]
   refine wl_skip rfl ?_
   simp only [Act.put, Xa, Xz, Xs]
   refine wl_skip rfl ?_
   simp only [Act.put, Xa, Xz, Xs]
   refine wl_skip rfl ?_
   simp only [Act.put, Xa, Xz, Xs]
   refine wl_skip rfl ?_
   simp only [Act.put, Xa, Xz, Xs]
   refine wl_skip rfl ?_
   simp only [Act.put, Xa, Xz, Xs]
   refine wl_val (.bool false) rfl (fun _ => rfl) ?_
   simp only [Act.put, Xa, Xz, Xs]
   refine wl_nil ?_
   refine we_then ?_
   refine wc_false rfl ?_
   refine wc_skip ?_
   refine we_then ?_
   refine wc_region ?_
   refine wl_val (.slice s.ptr m s.cap) rfl (fun _ => rfl) ?_
   simp only [Act.put, Xa, Xz, Xs]
   refine wl_val (.slice p L.length c) rfl (fun _ => rfl) ?_
   simp only [Act.put, Xa, Xz, Xs]
   refine wl_val (.int .i64 (i : Int)) rfl (fun _ => rfl) ?_
   simp only [Act.put, Xa, Xz, Xs]
   refine wl_read (eaddr p (i * 1)) rfl (er_index i 1 (sl_old hL) rfl rfl rfl rfl (by omega) (flat_length (enc := enc1) (size := 1) (fun _ => rfl) _) (by decide) Try.underlying46 (by kernel_rfl)) ?_
   simp only [Act.put, Xa, Xz, Xs]
   refine wl_read (.int .i64 (L[i]!)) rfl (er_cell (i * 1) (.int .i64 (L[i]!)) (sl_old hL) rfl rfl (flat_cell (enc := enc1) (fun _ => rfl) L i 0 (by omega) (by decide)) Try.isAgg2) ?_
   simp only [Act.put, Xa, Xz, Xs]
   refine wl_lit (e := 2) #[.int .i64 (L[i]!)] 1 rfl (fun _ => by go_simp) ?_
   intro g16
   simp only [Act.put, Xa, Xz, Xs]
   refine wl_append (e := 2) (size := 1) (bytes := 8) (m := 1) [⟨g16, #[.int .i64 (L[i]!)], 2⟩] [] s (ys := [.int .i64 (L[i]!)]) rfl b3 (sl_row 0 rfl) rfl (by simp [Value.oneCell']) rfl rfl rfl rfl Try.underlying46 (by unfold Elem; kernel_rfl) (by decide) (by unfold maxLen; omega) (by omega) ?_
   intro s17 hs17
   simp only [List.cons_append, List.nil_append, Act.put, Xa, Xz, Xs]
   refine wl_val (.slice s17.ptr (m + 1) s17.cap) rfl (fun _ => rfl) ?_
   simp only [Act.put, Xa, Xz, Xs]
   refine wl_nil ?_
   refine we_in ?_
   refine we_then ?_
   refine wc_region ?_
   refine wl_val (.int .i64 (i : Int)) rfl (fun _ => rfl) ?_
   simp only [Act.put, Xa, Xz, Xs]
   refine wl_val (.int .i64 ((i + 1 : Nat) : Int)) rfl (fun w => run_nat (X := i) (Y := 1) (Z := i + 1) rfl rfl rfl rfl (by omega) w) ?_
   simp only [Act.put, Xa, Xz, Xs]
   refine wl_val (.int .i64 ((i + 1 : Nat) : Int)) rfl (fun _ => rfl) ?_
   simp only [Act.put, Xa, Xz, Xs]
   refine wl_nil ?_
   exact we_meet ⟨(i + 1), true, (m + 1), s17, (O ++ [L[i]!]), _, _, _, _, _, _, _, _, _, _, _, _, _, _, _, _, _, _, _, _, _, _, _, _, _, _, _, _, _, _, _, _, _⟩ (by (try dsimp only); have e3 : pst ltZ x (L.take (i + 1)) = (true, (O ++ [L[i]!])) := (by rw [pst_snoc ltZ x L (by omega), ← b2]; unfold pstep; rw [if_neg (by rw [h5]; simp)]; rw [h5]); exact ⟨⟨by omega, e3.symm, by simp [bm], has_snoc (x := L[i]!) hs17⟩, by omega⟩) rfl (List.Sublist.cons _ (List.Sublist.append_left List.Sublist.slnil _))
theorem add_len (L : List Int) (x : Int) (p : Option Addr) (c m : Nat) (w : World) (hl : L.length = m) (hL : Reads w p (flat enc1 L)) (hn : L.length ≤ 1048576) :
  Calls Try.prog 33 #[.slice p m c, .int .i64 x] w fun e w' => ∃ s : Own, s.Has 1 (ins ltZ x L).length (flat enc1 (ins ltZ x L)) ∧ e = .returned (.slice s.ptr (ins ltZ x L).length s.cap) ∧ Env w w' (s.rows 2) := by
 subst hl
 exact add_any L x p c w hL hn
set_option maxHeartbeats 8000000 in
theorem places_any (f : Int) (T : List Ix) (tp : Option Addr) (tc : Nat) (gi : Nat) (G : List Sg) (H : List Gp) (p q : Option Addr) (c d : Nat) (w : World) (hS : Reads w p (flat sg G)) (hG : OkS w G) (hH : Reads w q (flat gp H)) (hn : G.length ≤ 140737488355328) (hm : H.length ≤ 140737488355328) (hM : TrackMay G H) (hf : 0 ≤ f ∧ f ≤ 1099511627776) (hT : Reads w tp (flat ix T)) (hO : OkI w T) (hR : ∀ x ∈ T, RtOk G x.X) (h16 : T.length ≤ 16) (hgi : gi < H.length) :
  Calls Try.prog 17 #[.agg #[.slice p G.length c, .slice q H.length d], .agg #[.int .i64 f, .slice tp T.length tc], .int .i64 (gi : Int)] w fun e w' => ∃ s : Own, s.Has 1 (plc G f (H[gi]!).seg (H[gi]!).off (xs T) T.length).length (flat enc1 (plc G f (H[gi]!).seg (H[gi]!).off (xs T) T.length)) ∧ e = .returned (s.val (plc G f (H[gi]!).seg (H[gi]!).off (xs T) T.length).length) ∧ Env w w' (s.rows 2) := by
 refine calls_sx Try.func17 rfl ?_
 simp only [Try.ntmps17, List.size_toArray, List.length_cons, List.length_nil, Nat.reduceAdd, Nat.reduceSub, Array.replicate_succ, Array.replicate_zero, List.push_toArray, List.append_toArray, List.nil_append, List.cons_append]
 refine wc_seq ?_
 refine wc_region ?_
 refine wl_new 56 (#[.slice p G.length c, .slice q H.length d]) rfl (fun _ => by go_simp) ?_
 intro g1
 simp only [Act.put, Xa, Xz, Xs]
 refine wl_new 50 (#[.int .i64 f, .slice tp T.length tc]) rfl (fun _ => by go_simp) ?_
 intro g2
 simp only [Act.put, Xa, Xz, Xs]
 refine wl_val (.slice none 0 0) rfl (fun _ => rfl) ?_
 simp only [Act.put, Xa, Xz, Xs]
 refine wl_nil ?_
 refine we_then ?_
 refine wc_seq ?_
 refine wc_region ?_
 refine wl_val (.slice none 0 0) rfl (fun _ => rfl) ?_
 simp only [Act.put, Xa, Xz, Xs]
 refine wl_nil ?_
 refine we_then ?_
 refine wc_seq ?_
 refine wc_seq ?_
 refine wc_region ?_
 refine wl_val (.int .i64 0) rfl (fun _ => rfl) ?_
 simp only [Act.put, Xa, Xz, Xs]
 refine wl_nil ?_
 refine we_then ?_
 refine wc_block ?_
 refine wc_loop (fun (zz : Nat × Nat × Own × List Int × Value × Value × Value × Value × Value × Value × Value × Value × Value × Value × Value × Value × Value × Value × Value × Value × Value × Value × Value × Value × Value × Value × Value × Value × Value × Value × Value × Value × Value × Value × Value × Value × Value × Value × Value × Value × Value × Value × Value × Value × Value × Value × Value × Value × Value × Value × Value × Value × Value × Value × Value × Value × Value × Value × Value × Value × Value × Value × Value × Value × Value × Value) => match zz with | ⟨i, m, s, Q, u9, u10, u11, u12, u13, u14, u15, u16, u17, u18, u19, u20, u21, u22, u23, u24, u25, u26, u27, u28, u29, u30, u31, u32, u33, u34, u35, u36, u37, u38, u39, u40, u41, u42, u43, u44, u45, u46, u47, u48, u49, u50, u51, u52, u53, u54, u55, u56, u57, u58, u59, u60, u61, u62, u63, u64, u65, u66, u67, u68, u69, u70⟩ => ({ tmps := #[.agg #[.slice p G.length c, .slice q H.length d], .agg #[.int .i64 f, .slice tp T.length tc], .int .i64 (gi : Int), .pointer (some ⟨g1, 0, none⟩), .pointer (some ⟨g2, 0, none⟩), undef, .slice none 0 0, .slice s.ptr m s.cap, .int .i64 (i : Int), u9, u10, u11, u12, u13, u14, u15, u16, u17, u18, u19, u20, u21, u22, u23, u24, u25, u26, u27, u28, u29, u30, u31, u32, u33, u34, u35, u36, u37, u38, u39, u40, u41, u42, u43, u44, u45, u46, u47, u48, u49, u50, u51, u52, u53, u54, u55, u56, u57, u58, u59, u60, u61, u62, u63, u64, u65, u66, u67, u68, u69, u70, undef], defers := [] } : Act)) (fun (zz : Nat × Nat × Own × List Int × Value × Value × Value × Value × Value × Value × Value × Value × Value × Value × Value × Value × Value × Value × Value × Value × Value × Value × Value × Value × Value × Value × Value × Value × Value × Value × Value × Value × Value × Value × Value × Value × Value × Value × Value × Value × Value × Value × Value × Value × Value × Value × Value × Value × Value × Value × Value × Value × Value × Value × Value × Value × Value × Value × Value × Value × Value × Value × Value × Value × Value × Value) => match zz with | ⟨i, m, s, Q, u9, u10, u11, u12, u13, u14, u15, u16, u17, u18, u19, u20, u21, u22, u23, u24, u25, u26, u27, u28, u29, u30, u31, u32, u33, u34, u35, u36, u37, u38, u39, u40, u41, u42, u43, u44, u45, u46, u47, u48, u49, u50, u51, u52, u53, u54, u55, u56, u57, u58, u59, u60, u61, u62, u63, u64, u65, u66, u67, u68, u69, u70⟩ => ⟨g2, #[.int .i64 f, .slice tp T.length tc], 50⟩ :: ⟨g1, #[.slice p G.length c, .slice q H.length d], 56⟩ :: (s.rows 2 ++ [])) (fun (zz : Nat × Nat × Own × List Int × Value × Value × Value × Value × Value × Value × Value × Value × Value × Value × Value × Value × Value × Value × Value × Value × Value × Value × Value × Value × Value × Value × Value × Value × Value × Value × Value × Value × Value × Value × Value × Value × Value × Value × Value × Value × Value × Value × Value × Value × Value × Value × Value × Value × Value × Value × Value × Value × Value × Value × Value × Value × Value × Value × Value × Value × Value × Value × Value × Value × Value × Value) => match zz with | ⟨i, m, s, Q, u9, u10, u11, u12, u13, u14, u15, u16, u17, u18, u19, u20, u21, u22, u23, u24, u25, u26, u27, u28, u29, u30, u31, u32, u33, u34, u35, u36, u37, u38, u39, u40, u41, u42, u43, u44, u45, u46, u47, u48, u49, u50, u51, u52, u53, u54, u55, u56, u57, u58, u59, u60, u61, u62, u63, u64, u65, u66, u67, u68, u69, u70⟩ => i ≤ T.length ∧ Q = plc G f (H[gi]!).seg (H[gi]!).off (xs T) i ∧ Q.length = m ∧ s.Has 1 m (flat enc1 Q)) (fun (zz : Nat × Nat × Own × List Int × Value × Value × Value × Value × Value × Value × Value × Value × Value × Value × Value × Value × Value × Value × Value × Value × Value × Value × Value × Value × Value × Value × Value × Value × Value × Value × Value × Value × Value × Value × Value × Value × Value × Value × Value × Value × Value × Value × Value × Value × Value × Value × Value × Value × Value × Value × Value × Value × Value × Value × Value × Value × Value × Value × Value × Value × Value × Value × Value × Value × Value × Value) => match zz with | ⟨i, m, s, Q, u9, u10, u11, u12, u13, u14, u15, u16, u17, u18, u19, u20, u21, u22, u23, u24, u25, u26, u27, u28, u29, u30, u31, u32, u33, u34, u35, u36, u37, u38, u39, u40, u41, u42, u43, u44, u45, u46, u47, u48, u49, u50, u51, u52, u53, u54, u55, u56, u57, u58, u59, u60, u61, u62, u63, u64, u65, u66, u67, u68, u69, u70⟩ => T.length - i) ⟨0, 0, Own.none, [], _, _, _, _, _, _, _, _, _, _, _, _, _, _, _, _, _, _, _, _, _, _, _, _, _, _, _, _, _, _, _, _, _, _, _, _, _, _, _, _, _, _, _, _, _, _, _, _, _, _, _, _, _, _, _, _, _, _, _, _, _, _⟩ ⟨Nat.zero_le _, rfl, rfl, Own.has_none 1⟩ rfl (List.Sublist.cons_cons _ (List.Sublist.cons_cons _ List.Sublist.slnil)) ?_
 rintro ⟨i, m, s, Q, u9, u10, u11, u12, u13, u14, u15, u16, u17, u18, u19, u20, u21, u22, u23, u24, u25, u26, u27, u28, u29, u30, u31, u32, u33, u34, u35, u36, u37, u38, u39, u40, u41, u42, u43, u44, u45, u46, u47, u48, u49, u50, u51, u52, u53, u54, u55, u56, u57, u58, u59, u60, u61, u62, u63, u64, u65, u66, u67, u68, u69, u70⟩ hφ
 (try dsimp only at hφ ⊢)
 obtain ⟨b1, b3, b4, b5⟩ := hφ
 have b6 := plc_len G f (H[gi]!).seg (H[gi]!).off (xs T) (fun i hi => by rw [xs_get (by rw [xs_len] at hi; exact hi)]; exact (hR _ (get_mem (by rw [xs_len] at hi; exact hi))).few) i (by rw [xs_len]; exact b1)
 rw [← b3] at b6
 refine wc_seq ?_
 refine wc_seq ?_
 refine wc_region ?_
 refine wl_val (.int .i64 (i : Int)) rfl (fun _ => rfl) ?_
 simp only [Act.put, Xa, Xz, Xs]
 refine wl_val (.pointer (some ⟨g2, 1, none⟩)) rfl (fun _ => by go_simp) ?_
 simp only [Act.put, Xa, Xz, Xs]
 refine wl_cell 48 (.tmp 12) (.slice tp T.length tc) (own_row 0 rfl) rfl rfl rfl rfl Try.isAgg48 ?_
 simp only [Act.put, Xa, Xz, Xs]
 refine wl_val (.int .i64 (T.length : Int)) rfl (fun w => er_len rfl rfl Try.underlying48 w) ?_
 simp only [Act.put, Xa, Xz, Xs]
 refine wl_val (.bool (decide ((i : Int) < (T.length : Int)))) rfl (fun w => run_cmp rfl rfl rfl Try.underlying3 rfl w) ?_
 simp only [Act.put, Xa, Xz, Xs]
 refine wl_nil ?_
 refine we_then ?_
 cases h3 : (decide ((i : Int) < (T.length : Int)))
 ·
  skip
  have p3 : ¬ ((i : Int) < (T.length : Int)) := of_decide_eq_false h3
  refine wc_false rfl ?_
  refine wc_exit ?_
  refine we_then_exit ?_
  refine we_then_exit ?_
  refine we_in_here ?_
  refine we_then ?_
  refine wc_seq ?_
  refine wc_region ?_
  refine wl_val (.slice s.ptr m s.cap) rfl (fun _ => rfl) ?_
  simp only [Act.put, Xa, Xz, Xs]
  refine wl_val (.slice s.ptr m s.cap) rfl (fun _ => rfl) ?_
  simp only [Act.put, Xa, Xz, Xs]
  refine wl_nil ?_
  refine we_then ?_
  refine wc_ret ?_
  refine we_ret1 (.slice s.ptr m s.cap) rfl rfl rfl (fun w1 hE => ?_)
  have e1 : i = T.length := by omega
  subst e1
  subst b4
  subst b3
  exact ⟨s, b5, rfl, Env.tail hE (List.Sublist.cons _ (List.Sublist.cons _ (List.Sublist.append_left List.Sublist.slnil _)))⟩
 ·
  skip
  have p3 : (i : Int) < (T.length : Int) := of_decide_eq_true h3
  refine wc_true rfl ?_
  refine wc_skip ?_
  refine we_then ?_
  refine wc_seq ?_
  refine wc_block ?_
  refine wc_seq ?_
  have r1 := hR _ (get_mem (show i < T.length by omega))
  have r2 := r1.few
  refine wc_region ?_
  refine wl_val (.pointer (some ⟨g2, 0, none⟩)) rfl (fun _ => by go_simp) ?_
  simp only [Act.put, Xa, Xz, Xs]
  refine wl_cell 2 (.tmp 18) (.int .i64 f) (own_row 0 rfl) rfl rfl rfl rfl Try.isAgg2 ?_
  simp only [Act.put, Xa, Xz, Xs]
  refine wl_val (.int .i64 (-f)) rfl (fun w => run_neg rfl rfl Try.underlying2 (i64_in (by omega) (by omega)) w) ?_
  simp only [Act.put, Xa, Xz, Xs]
  refine wl_val (.int .i64 (-f)) rfl (fun _ => rfl) ?_
  simp only [Act.put, Xa, Xz, Xs]
  refine wl_nil ?_
  refine we_then ?_
  refine wc_seq ?_
  refine wc_region ?_
  refine wl_val (.int .i64 0) rfl (fun _ => rfl) ?_
  simp only [Act.put, Xa, Xz, Xs]
  refine wl_nil ?_
  refine we_then ?_
  refine wc_block ?_
  refine wc_loop (fun (zz : Nat × Int × Nat × Own × List Int × Value × Value × Value × Value × Value × Value × Value × Value × Value × Value × Value × Value × Value × Value × Value × Value × Value × Value × Value × Value × Value × Value × Value × Value × Value × Value × Value × Value × Value × Value × Value × Value × Value × Value × Value × Value × Value × Value × Value × Value × Value × Value × Value × Value × Value × Value × Value × Value × Value × Value) => match zz with | ⟨k, a, m2, s2, Q2, u21, u22, u23, u24, u25, u26, u27, u28, u29, u30, u31, u32, u33, u34, u35, u36, u37, u38, u39, u40, u41, u42, u43, u44, u45, u46, u47, u48, u49, u50, u51, u52, u53, u54, u55, u56, u57, u58, u59, u60, u61, u62, u63, u64, u65, u66, u67, u68, u69, u70⟩ => ({ tmps := #[.agg #[.slice p G.length c, .slice q H.length d], .agg #[.int .i64 f, .slice tp T.length tc], .int .i64 (gi : Int), .pointer (some ⟨g1, 0, none⟩), .pointer (some ⟨g2, 0, none⟩), undef, .slice none 0 0, .slice s2.ptr m2 s2.cap, .int .i64 (i : Int), .int .i64 a, .int .i64 (k : Int), .int .i64 (i : Int), .pointer (some ⟨g2, 1, none⟩), .slice tp T.length tc, .int .i64 (T.length : Int), .bool true, u16, u17, .pointer (some ⟨g2, 0, none⟩), .int .i64 f, .int .i64 (-f), u21, u22, u23, u24, u25, u26, u27, u28, u29, u30, u31, u32, u33, u34, u35, u36, u37, u38, u39, u40, u41, u42, u43, u44, u45, u46, u47, u48, u49, u50, u51, u52, u53, u54, u55, u56, u57, u58, u59, u60, u61, u62, u63, u64, u65, u66, u67, u68, u69, u70, undef], defers := [] } : Act)) (fun (zz : Nat × Int × Nat × Own × List Int × Value × Value × Value × Value × Value × Value × Value × Value × Value × Value × Value × Value × Value × Value × Value × Value × Value × Value × Value × Value × Value × Value × Value × Value × Value × Value × Value × Value × Value × Value × Value × Value × Value × Value × Value × Value × Value × Value × Value × Value × Value × Value × Value × Value × Value × Value × Value × Value × Value × Value) => match zz with | ⟨k, a, m2, s2, Q2, u21, u22, u23, u24, u25, u26, u27, u28, u29, u30, u31, u32, u33, u34, u35, u36, u37, u38, u39, u40, u41, u42, u43, u44, u45, u46, u47, u48, u49, u50, u51, u52, u53, u54, u55, u56, u57, u58, u59, u60, u61, u62, u63, u64, u65, u66, u67, u68, u69, u70⟩ => ⟨g2, #[.int .i64 f, .slice tp T.length tc], 50⟩ :: ⟨g1, #[.slice p G.length c, .slice q H.length d], 56⟩ :: (s2.rows 2 ++ [])) (fun (zz : Nat × Int × Nat × Own × List Int × Value × Value × Value × Value × Value × Value × Value × Value × Value × Value × Value × Value × Value × Value × Value × Value × Value × Value × Value × Value × Value × Value × Value × Value × Value × Value × Value × Value × Value × Value × Value × Value × Value × Value × Value × Value × Value × Value × Value × Value × Value × Value × Value × Value × Value × Value × Value × Value × Value × Value) => match zz with | ⟨k, a, m2, s2, Q2, u21, u22, u23, u24, u25, u26, u27, u28, u29, u30, u31, u32, u33, u34, u35, u36, u37, u38, u39, u40, u41, u42, u43, u44, u45, u46, u47, u48, u49, u50, u51, u52, u53, u54, u55, u56, u57, u58, u59, u60, u61, u62, u63, u64, u65, u66, u67, u68, u69, u70⟩ => k ≤ (T[i]!).X.length ∧ a = endR G f ((T[i]!).X.take k) ∧ Q2 = plr G f (H[gi]!).seg (H[gi]!).off (T[i]!).X (plc G f (H[gi]!).seg (H[gi]!).off (xs T) i) k ∧ Q2.length = m2 ∧ s2.Has 1 m2 (flat enc1 Q2)) (fun (zz : Nat × Int × Nat × Own × List Int × Value × Value × Value × Value × Value × Value × Value × Value × Value × Value × Value × Value × Value × Value × Value × Value × Value × Value × Value × Value × Value × Value × Value × Value × Value × Value × Value × Value × Value × Value × Value × Value × Value × Value × Value × Value × Value × Value × Value × Value × Value × Value × Value × Value × Value × Value × Value × Value × Value × Value) => match zz with | ⟨k, a, m2, s2, Q2, u21, u22, u23, u24, u25, u26, u27, u28, u29, u30, u31, u32, u33, u34, u35, u36, u37, u38, u39, u40, u41, u42, u43, u44, u45, u46, u47, u48, u49, u50, u51, u52, u53, u54, u55, u56, u57, u58, u59, u60, u61, u62, u63, u64, u65, u66, u67, u68, u69, u70⟩ => (T[i]!).X.length - k) ⟨0, (-f), m, s, Q, _, _, _, _, _, _, _, _, _, _, _, _, _, _, _, _, _, _, _, _, _, _, _, _, _, _, _, _, _, _, _, _, _, _, _, _, _, _, _, _, _, _, _, _, _, _, _, _, _, _⟩ ⟨Nat.zero_le _, rfl, b3, b4, b5⟩ rfl (List.Sublist.cons_cons _ (List.Sublist.cons_cons _ (List.Sublist.append_left List.Sublist.slnil _))) ?_
  rintro ⟨k, a, m2, s2, Q2, u21, u22, u23, u24, u25, u26, u27, u28, u29, u30, u31, u32, u33, u34, u35, u36, u37, u38, u39, u40, u41, u42, u43, u44, u45, u46, u47, u48, u49, u50, u51, u52, u53, u54, u55, u56, u57, u58, u59, u60, u61, u62, u63, u64, u65, u66, u67, u68, u69, u70⟩ hφ
  (try dsimp only at hφ ⊢)
  obtain ⟨d1, d2, d3, d4, d5⟩ := hφ
  have d6 := end_in (f := f) hM.segs r1 k d1
  rw [← d2] at d6
  have d7 := plr_len G f (H[gi]!).seg (H[gi]!).off (T[i]!).X (plc G f (H[gi]!).seg (H[gi]!).off (xs T) i) k
  rw [← d3, ← b3] at d7
  refine wc_seq ?_
  refine wc_seq ?_
  refine wc_region ?_
  refine wl_val (.int .i64 (k : Int)) rfl (fun _ => rfl) ?_
  simp only [Act.put, Xa, Xz, Xs]
  refine wl_val (.pointer (some ⟨g2, 1, none⟩)) rfl (fun _ => by go_simp) ?_
  simp only [Act.put, Xa, Xz, Xs]
  refine wl_cell 48 (.tmp 22) (.slice tp T.length tc) (own_row 0 rfl) rfl rfl rfl rfl Try.isAgg48 ?_
  simp only [Act.put, Xa, Xz, Xs]
  refine wl_val (.int .i64 (i : Int)) rfl (fun _ => rfl) ?_
  simp only [Act.put, Xa, Xz, Xs]
  refine wl_read (eaddr tp (i * 1)) rfl (er_index i 1 (sl_old hT) rfl rfl rfl rfl (by omega) (flat_length (enc := ix) (size := 1) (fun _ => rfl) _) (by decide) Try.underlying48 (by kernel_rfl)) ?_
  simp only [Act.put, Xa, Xz, Xs]
  refine wl_read (.slice ((T[i]!).p) ((T[i]!).X.length) ((T[i]!).c)) rfl (er_cell (i * 1) (.slice ((T[i]!).p) ((T[i]!).X.length) ((T[i]!).c)) (sl_old hT) rfl rfl (flat_cell (enc := ix) (fun _ => rfl) T i 0 (by omega) (by decide)) Try.isAgg58) ?_
  simp only [Act.put, Xa, Xz, Xs]
  refine wl_val (.int .i64 (((T[i]!).X.length : Nat) : Int)) rfl (fun w => er_len rfl rfl Try.underlying58 w) ?_
  simp only [Act.put, Xa, Xz, Xs]
  refine wl_val (.bool (decide ((k : Int) < (((T[i]!).X.length : Nat) : Int)))) rfl (fun w => run_cmp rfl rfl rfl Try.underlying3 rfl w) ?_
  simp only [Act.put, Xa, Xz, Xs]
  refine wl_nil ?_
  refine we_then ?_
  cases h4 : (decide ((k : Int) < (((T[i]!).X.length : Nat) : Int)))
  ·
   skip
   have p4 : ¬ ((k : Int) < (((T[i]!).X.length : Nat) : Int)) := of_decide_eq_false h4
   refine wc_false rfl ?_
   refine wc_exit ?_
   refine we_then_exit ?_
   refine we_then_exit ?_
   refine we_in_here ?_
   refine we_in ?_
   refine we_then ?_
   refine wc_region ?_
   refine wl_val (.int .i64 (i : Int)) rfl (fun _ => rfl) ?_
   simp only [Act.put, Xa, Xz, Xs]
   refine wl_val (.int .i64 ((i + 1 : Nat) : Int)) rfl (fun w => run_nat (X := i) (Y := 1) (Z := i + 1) rfl rfl rfl rfl (by omega) w) ?_
   simp only [Act.put, Xa, Xz, Xs]
   refine wl_val (.int .i64 ((i + 1 : Nat) : Int)) rfl (fun _ => rfl) ?_
   simp only [Act.put, Xa, Xz, Xs]
   refine wl_nil ?_
   exact we_meet ⟨(i + 1), m2, s2, Q2, _, _, _, _, _, _, _, _, _, _, _, _, _, _, _, _, _, _, _, _, _, _, _, _, _, _, _, _, _, _, _, _, _, _, _, _, _, _, _, _, _, _, _, _, _, _, _, _, _, _, _, _, _, _, _, _, _, _, _, _, _, _⟩ (by (try dsimp only); have e1 : k = (T[i]!).X.length := (by omega); subst e1; exact ⟨⟨by omega, by rw [d3]; exact plc_step (by omega), d4, d5⟩, by omega⟩) rfl (List.Sublist.cons_cons _ (List.Sublist.cons_cons _ (List.Sublist.append_left List.Sublist.slnil _)))
  ·
   skip
   have p4 : (k : Int) < (((T[i]!).X.length : Nat) : Int) := of_decide_eq_true h4
   refine wc_true rfl ?_
   refine wc_skip ?_
   refine we_then ?_
   refine wc_seq ?_
   refine wc_block ?_
   refine wc_seq ?_
   refine wc_seq ?_
   have q1 := r1.each k (by omega)
   have q2 := hM.segs ((T[i]!).X[k]!).toNat (by omega)
   have q3 := q2.low
   have q4 := q2.high
   have q5 := hM.grps gi hgi
   have q6 := q5.off0
   have q7 := q5.offn
   have q8 := (hM.segs (H[gi]!).seg.toNat (by have := q5.seg0; have := q5.segn; omega)).high
   refine wc_draw [.late, .plain, .late, .plain, .plain, .late, .plain, .plain, .late, .plain, .late, .plain, .plain, .plain, .late] none [] 72 (by kernel_rfl) rfl (by kernel_rfl) (by kernel_rfl) ?_
   refine ws_late (.pointer (some ⟨g2, 1, none⟩)) rfl rfl (fun _ => by go_simp) ?_
   simp only [Nat.reduceAdd, Act.put, Xa, Xz, Xs]
   refine ws_cell 48 (.tmp 31) (.slice tp T.length tc) (own_row 0 rfl) rfl rfl rfl rfl rfl Try.isAgg48 ?_
   simp only [Nat.reduceAdd, Act.put, Xa, Xz, Xs]
   refine ws_late (.int .i64 (i : Int)) rfl rfl (fun _ => rfl) ?_
   simp only [Nat.reduceAdd, Act.put, Xa, Xz, Xs]
   refine ws_read (eaddr tp (i * 1)) rfl rfl (er_index i 1 (sl_old hT) rfl rfl rfl rfl (by omega) (flat_length (enc := ix) (size := 1) (fun _ => rfl) _) (by decide) Try.underlying48 (by kernel_rfl)) ?_
   simp only [Nat.reduceAdd, Act.put, Xa, Xz, Xs]
   refine ws_read (.slice ((T[i]!).p) ((T[i]!).X.length) ((T[i]!).c)) rfl rfl (er_cell (i * 1) (.slice ((T[i]!).p) ((T[i]!).X.length) ((T[i]!).c)) (sl_old hT) rfl rfl (flat_cell (enc := ix) (fun _ => rfl) T i 0 (by omega) (by decide)) Try.isAgg58) ?_
   simp only [Nat.reduceAdd, Act.put, Xa, Xz, Xs]
   refine ws_late (.int .i64 (k : Int)) rfl rfl (fun _ => rfl) ?_
   simp only [Nat.reduceAdd, Act.put, Xa, Xz, Xs]
   refine ws_read (eaddr ((T[i]!).p) (k * 1)) rfl rfl (er_index k 1 (sl_old (ix_at hO (by omega)).rd) rfl rfl rfl rfl (by omega) (flat_length (enc := enc1) (size := 1) (fun _ => rfl) _) (by decide) Try.underlying58 (by kernel_rfl)) ?_
   simp only [Nat.reduceAdd, Act.put, Xa, Xz, Xs]
   refine ws_read (.int .i64 (((T[i]!).X)[k]!)) rfl rfl (er_cell (k * 1) (.int .i64 (((T[i]!).X)[k]!)) (sl_old (ix_at hO (by omega)).rd) rfl rfl (flat_cell (enc := enc1) (fun _ => rfl) ((T[i]!).X) k 0 (by omega) (by decide)) Try.isAgg3) ?_
   simp only [Nat.reduceAdd, Act.put, Xa, Xz, Xs]
   refine ws_late (.pointer (some ⟨g1, 1, none⟩)) rfl rfl (fun _ => by go_simp) ?_
   simp only [Nat.reduceAdd, Act.put, Xa, Xz, Xs]
   refine ws_cell 54 (.tmp 39) (.slice q H.length d) (own_row 1 rfl) rfl rfl rfl rfl rfl Try.isAgg54 ?_
   simp only [Nat.reduceAdd, Act.put, Xa, Xz, Xs]
   refine ws_late (.int .i64 (gi : Int)) rfl rfl (fun _ => rfl) ?_
   simp only [Nat.reduceAdd, Act.put, Xa, Xz, Xs]
   refine ws_read (eaddr q (gi * 5)) rfl rfl (er_index gi 5 (sl_old hH) rfl rfl rfl rfl (by omega) (flat_length (enc := gp) (size := 5) (fun _ => rfl) _) (by decide) Try.underlying54 (by kernel_rfl)) ?_
   simp only [Nat.reduceAdd, Act.put, Xa, Xz, Xs]
   refine ws_read (eaddr q (gi * 5 + 1)) rfl rfl (er_field (z := 0) (gi * 5) 1 1 (sl_old hH) rfl rfl (flat_lt (enc := gp) (fun _ => rfl) H gi 0 (by omega) (by decide)) Try.underlying93 rfl rfl (by kernel_rfl)) ?_
   simp only [Nat.reduceAdd, Act.put, Xa, Xz, Xs]
   refine ws_read (.int .i64 ((H[gi]!).seg)) rfl rfl (er_cell (gi * 5 + 1) (.int .i64 ((H[gi]!).seg)) (sl_old hH) rfl rfl (flat_cell (enc := gp) (fun _ => rfl) H gi 1 (by omega) (by decide)) Try.isAgg3) ?_
   simp only [Nat.reduceAdd, Act.put, Xa, Xz, Xs]
   refine ws_late (.bool ((((T[i]!).X)[k]!) == ((H[gi]!).seg))) rfl rfl (fun w => run_cmp rfl rfl rfl Try.underlying3 rfl w) ?_
   simp only [Nat.reduceAdd, Act.put, Xa, Xz, Xs]
   refine ws_nil [] trivial (by simp) ?_
   intro ps5
   simp only [fin, List.foldl_nil, List.map, List.nil_append]
   refine we_then ?_
   cases h6 : ((((T[i]!).X)[k]!) == ((H[gi]!).seg))
   ·
    skip
    have p6 : ¬ ((((T[i]!).X)[k]!) = ((H[gi]!).seg)) := by simpa using h6
    refine wc_false rfl ?_
    refine wc_skip ?_
    refine we_then ?_
    refine wc_draw [.late, .late, .plain, .late, .plain, .late, .plain, .plain, .late, .plain, .plain, .plain, .plain, .plain, .late, .late] none [] 72 (by kernel_rfl) rfl (by kernel_rfl) (by kernel_rfl) ?_
    refine ws_late (.int .i64 a) rfl rfl (fun _ => rfl) ?_
    simp only [Nat.reduceAdd, Act.put, Xa, Xz, Xs]
    refine ws_late (.pointer (some ⟨g1, 0, none⟩)) rfl rfl (fun _ => by go_simp) ?_
    simp only [Nat.reduceAdd, Act.put, Xa, Xz, Xs]
    refine ws_cell 53 (.tmp 57) (.slice p G.length c) (own_row 1 rfl) rfl rfl rfl rfl rfl Try.isAgg53 ?_
    simp only [Nat.reduceAdd, Act.put, Xa, Xz, Xs]
    refine ws_late (.pointer (some ⟨g2, 1, none⟩)) rfl rfl (fun _ => by go_simp) ?_
    simp only [Nat.reduceAdd, Act.put, Xa, Xz, Xs]
    refine ws_cell 48 (.tmp 59) (.slice tp T.length tc) (own_row 0 rfl) rfl rfl rfl rfl rfl Try.isAgg48 ?_
    simp only [Nat.reduceAdd, Act.put, Xa, Xz, Xs]
    refine ws_late (.int .i64 (i : Int)) rfl rfl (fun _ => rfl) ?_
    simp only [Nat.reduceAdd, Act.put, Xa, Xz, Xs]
    refine ws_read (eaddr tp (i * 1)) rfl rfl (er_index i 1 (sl_old hT) rfl rfl rfl rfl (by omega) (flat_length (enc := ix) (size := 1) (fun _ => rfl) _) (by decide) Try.underlying48 (by kernel_rfl)) ?_
    simp only [Nat.reduceAdd, Act.put, Xa, Xz, Xs]
    refine ws_read (.slice ((T[i]!).p) ((T[i]!).X.length) ((T[i]!).c)) rfl rfl (er_cell (i * 1) (.slice ((T[i]!).p) ((T[i]!).X.length) ((T[i]!).c)) (sl_old hT) rfl rfl (flat_cell (enc := ix) (fun _ => rfl) T i 0 (by omega) (by decide)) Try.isAgg58) ?_
    simp only [Nat.reduceAdd, Act.put, Xa, Xz, Xs]
    refine ws_late (.int .i64 (k : Int)) rfl rfl (fun _ => rfl) ?_
    simp only [Nat.reduceAdd, Act.put, Xa, Xz, Xs]
    refine ws_read (eaddr ((T[i]!).p) (k * 1)) rfl rfl (er_index k 1 (sl_old (ix_at hO (by omega)).rd) rfl rfl rfl rfl (by omega) (flat_length (enc := enc1) (size := 1) (fun _ => rfl) _) (by decide) Try.underlying58 (by kernel_rfl)) ?_
    simp only [Nat.reduceAdd, Act.put, Xa, Xz, Xs]
    refine ws_read (.int .i64 (((T[i]!).X)[k]!)) rfl rfl (er_cell (k * 1) (.int .i64 (((T[i]!).X)[k]!)) (sl_old (ix_at hO (by omega)).rd) rfl rfl (flat_cell (enc := enc1) (fun _ => rfl) ((T[i]!).X) k 0 (by omega) (by decide)) Try.isAgg3) ?_
    simp only [Nat.reduceAdd, Act.put, Xa, Xz, Xs]
    refine ws_read (eaddr p ((((T[i]!).X[k]!).toNat) * 3)) rfl rfl (er_index (((T[i]!).X[k]!).toNat) 3 (sl_old hS) rfl rfl rfl (by omega) (by omega) (flat_length (enc := sg) (size := 3) (fun _ => rfl) _) (by decide) Try.underlying53 (by kernel_rfl)) ?_
    simp only [Nat.reduceAdd, Act.put, Xa, Xz, Xs]
    refine ws_read (eaddr p ((((T[i]!).X[k]!).toNat) * 3 + 0)) rfl rfl (er_field (z := 0) ((((T[i]!).X[k]!).toNat) * 3) 0 0 (sl_old hS) rfl rfl (flat_lt (enc := sg) (fun _ => rfl) G (((T[i]!).X[k]!).toNat) 0 (by omega) (by decide)) Try.underlying89 rfl rfl (by kernel_rfl)) ?_
    simp only [Nat.reduceAdd, Act.put, Xa, Xz, Xs]
    refine ws_read (.int .i64 ((G[((T[i]!).X[k]!).toNat]!).len)) rfl rfl (er_cell ((((T[i]!).X[k]!).toNat) * 3 + 0) (.int .i64 ((G[((T[i]!).X[k]!).toNat]!).len)) (sl_old hS) rfl rfl (flat_cell (enc := sg) (fun _ => rfl) G (((T[i]!).X[k]!).toNat) 0 (by omega) (by decide)) Try.isAgg2) ?_
    simp only [Nat.reduceAdd, Act.put, Xa, Xz, Xs]
    refine ws_late (.int .i64 (a + ((G[((T[i]!).X[k]!).toNat]!).len))) rfl rfl (fun w => run_arith (op := .add) rfl rfl rfl Try.underlying2 (congrArg some (i64_in (by omega) (by omega))) w) ?_
    simp only [Nat.reduceAdd, Act.put, Xa, Xz, Xs]
    refine ws_late (.int .i64 (a + ((G[((T[i]!).X[k]!).toNat]!).len))) rfl rfl (fun _ => rfl) ?_
    simp only [Nat.reduceAdd, Act.put, Xa, Xz, Xs]
    refine ws_nil [] trivial (by simp) ?_
    intro ps7
    simp only [fin, List.foldl_nil, List.map, List.nil_append]
    refine we_in ?_
    refine we_then ?_
    refine wc_region ?_
    refine wl_val (.int .i64 (k : Int)) rfl (fun _ => rfl) ?_
    simp only [Act.put, Xa, Xz, Xs]
    refine wl_val (.int .i64 ((k + 1 : Nat) : Int)) rfl (fun w => run_nat (X := k) (Y := 1) (Z := k + 1) rfl rfl rfl rfl (by omega) w) ?_
    simp only [Act.put, Xa, Xz, Xs]
    refine wl_val (.int .i64 ((k + 1 : Nat) : Int)) rfl (fun _ => rfl) ?_
    simp only [Act.put, Xa, Xz, Xs]
    refine wl_nil ?_
    exact we_meet ⟨(k + 1), (a + (G[((T[i]!).X[k]!).toNat]!).len), m2, s2, Q2, _, _, _, _, _, _, _, _, _, _, _, _, _, _, _, _, _, _, _, _, _, _, _, _, _, _, _, _, _, _, _, _, _, _, _, _, _, _, _, _, _, _, _, _, _, _, _, _, _, _⟩ (by (try dsimp only); exact ⟨⟨by omega, by rw [end_snoc G f (T[i]!).X (by omega), ← d2], plr_no d3 (by omega), d4, d5⟩, by omega⟩) rfl (List.Sublist.cons_cons _ (List.Sublist.cons_cons _ (List.Sublist.append_left List.Sublist.slnil _)))
   ·
    skip
    have p6 : (((T[i]!).X)[k]!) = ((H[gi]!).seg) := by simpa using h6
    refine wc_true rfl ?_
    refine wc_region ?_
    refine wl_val (.slice s2.ptr m2 s2.cap) rfl (fun _ => rfl) ?_
    simp only [Act.put, Xa, Xz, Xs]
    refine wl_val (.int .i64 a) rfl (fun _ => rfl) ?_
    simp only [Act.put, Xa, Xz, Xs]
    refine wl_val (.pointer (some ⟨g1, 1, none⟩)) rfl (fun _ => by go_simp) ?_
    simp only [Act.put, Xa, Xz, Xs]
    refine wl_cell 54 (.tmp 48) (.slice q H.length d) (own_row 1 rfl) rfl rfl rfl rfl Try.isAgg54 ?_
    simp only [Act.put, Xa, Xz, Xs]
    refine wl_val (.int .i64 (gi : Int)) rfl (fun _ => rfl) ?_
    simp only [Act.put, Xa, Xz, Xs]
    refine wl_read (eaddr q (gi * 5)) rfl (er_index gi 5 (sl_old hH) rfl rfl rfl rfl (by omega) (flat_length (enc := gp) (size := 5) (fun _ => rfl) _) (by decide) Try.underlying54 (by kernel_rfl)) ?_
    simp only [Act.put, Xa, Xz, Xs]
    refine wl_read (eaddr q (gi * 5 + 2)) rfl (er_field (z := 0) (gi * 5) 2 2 (sl_old hH) rfl rfl (flat_lt (enc := gp) (fun _ => rfl) H gi 0 (by omega) (by decide)) Try.underlying93 rfl rfl (by kernel_rfl)) ?_
    simp only [Act.put, Xa, Xz, Xs]
    refine wl_read (.int .i64 ((H[gi]!).off)) rfl (er_cell (gi * 5 + 2) (.int .i64 ((H[gi]!).off)) (sl_old hH) rfl rfl (flat_cell (enc := gp) (fun _ => rfl) H gi 2 (by omega) (by decide)) Try.isAgg2) ?_
    simp only [Act.put, Xa, Xz, Xs]
    refine wl_val (.int .i64 (a + ((H[gi]!).off))) rfl (fun w => run_arith (op := .add) rfl rfl rfl Try.underlying2 (congrArg some (i64_in (by omega) (by omega))) w) ?_
    simp only [Act.put, Xa, Xz, Xs]
    refine wl_call_own (ι := Own) (e := 2) [⟨g2, #[.int .i64 f, .slice tp T.length tc], 50⟩, ⟨g1, #[.slice p G.length c, .slice q H.length d], 56⟩] (s2.rows 2 ++ []) 33 #[.slice s2.ptr m2 s2.cap, .int .i64 (a + ((H[gi]!).off))] (fun s => .slice s.ptr (ins ltZ (a + ((H[gi]!).off)) Q2).length s.cap) (fun s => s) (fun s => s.Has 1 (ins ltZ (a + ((H[gi]!).off)) Q2).length (flat enc1 (ins ltZ (a + ((H[gi]!).off)) Q2))) rfl rfl (fun _ => by go_simp) (fun W hE => add_len Q2 (a + ((H[gi]!).off)) _ _ _ W d4 ((sl_own [⟨g2, #[.int .i64 f, .slice tp T.length tc], 50⟩, ⟨g1, #[.slice p G.length c, .slice q H.length d], 56⟩] [] d5 rfl) W hE) (by omega)) ?_
    rintro s8 hs8
    simp only [List.cons_append, List.nil_append, Act.put, Xa, Xz, Xs]
    refine wl_val (.slice s8.ptr ((ins ltZ (a + ((H[gi]!).off)) Q2).length) s8.cap) rfl (fun _ => rfl) ?_
    simp only [Act.put, Xa, Xz, Xs]
    refine wl_nil ?_
    refine we_then ?_
    refine wc_draw [.late, .late, .plain, .late, .plain, .late, .plain, .plain, .late, .plain, .plain, .plain, .plain, .plain, .late, .late] none [] 72 (by kernel_rfl) rfl (by kernel_rfl) (by kernel_rfl) ?_
    refine ws_late (.int .i64 a) rfl rfl (fun _ => rfl) ?_
    simp only [Nat.reduceAdd, Act.put, Xa, Xz, Xs]
    refine ws_late (.pointer (some ⟨g1, 0, none⟩)) rfl rfl (fun _ => by go_simp) ?_
    simp only [Nat.reduceAdd, Act.put, Xa, Xz, Xs]
    refine ws_cell 53 (.tmp 57) (.slice p G.length c) (own_row 1 rfl) rfl rfl rfl rfl rfl Try.isAgg53 ?_
    simp only [Nat.reduceAdd, Act.put, Xa, Xz, Xs]
    refine ws_late (.pointer (some ⟨g2, 1, none⟩)) rfl rfl (fun _ => by go_simp) ?_
    simp only [Nat.reduceAdd, Act.put, Xa, Xz, Xs]
    refine ws_cell 48 (.tmp 59) (.slice tp T.length tc) (own_row 0 rfl) rfl rfl rfl rfl rfl Try.isAgg48 ?_
    simp only [Nat.reduceAdd, Act.put, Xa, Xz, Xs]
    refine ws_late (.int .i64 (i : Int)) rfl rfl (fun _ => rfl) ?_
    simp only [Nat.reduceAdd, Act.put, Xa, Xz, Xs]
    refine ws_read (eaddr tp (i * 1)) rfl rfl (er_index i 1 (sl_old hT) rfl rfl rfl rfl (by omega) (flat_length (enc := ix) (size := 1) (fun _ => rfl) _) (by decide) Try.underlying48 (by kernel_rfl)) ?_
    simp only [Nat.reduceAdd, Act.put, Xa, Xz, Xs]
    refine ws_read (.slice ((T[i]!).p) ((T[i]!).X.length) ((T[i]!).c)) rfl rfl (er_cell (i * 1) (.slice ((T[i]!).p) ((T[i]!).X.length) ((T[i]!).c)) (sl_old hT) rfl rfl (flat_cell (enc := ix) (fun _ => rfl) T i 0 (by omega) (by decide)) Try.isAgg58) ?_
    simp only [Nat.reduceAdd, Act.put, Xa, Xz, Xs]
    refine ws_late (.int .i64 (k : Int)) rfl rfl (fun _ => rfl) ?_
    simp only [Nat.reduceAdd, Act.put, Xa, Xz, Xs]
    refine ws_read (eaddr ((T[i]!).p) (k * 1)) rfl rfl (er_index k 1 (sl_old (ix_at hO (by omega)).rd) rfl rfl rfl rfl (by omega) (flat_length (enc := enc1) (size := 1) (fun _ => rfl) _) (by decide) Try.underlying58 (by kernel_rfl)) ?_
    simp only [Nat.reduceAdd, Act.put, Xa, Xz, Xs]
    refine ws_read (.int .i64 (((T[i]!).X)[k]!)) rfl rfl (er_cell (k * 1) (.int .i64 (((T[i]!).X)[k]!)) (sl_old (ix_at hO (by omega)).rd) rfl rfl (flat_cell (enc := enc1) (fun _ => rfl) ((T[i]!).X) k 0 (by omega) (by decide)) Try.isAgg3) ?_
    simp only [Nat.reduceAdd, Act.put, Xa, Xz, Xs]
    refine ws_read (eaddr p ((((T[i]!).X[k]!).toNat) * 3)) rfl rfl (er_index (((T[i]!).X[k]!).toNat) 3 (sl_old hS) rfl rfl rfl (by omega) (by omega) (flat_length (enc := sg) (size := 3) (fun _ => rfl) _) (by decide) Try.underlying53 (by kernel_rfl)) ?_
    simp only [Nat.reduceAdd, Act.put, Xa, Xz, Xs]
    refine ws_read (eaddr p ((((T[i]!).X[k]!).toNat) * 3 + 0)) rfl rfl (er_field (z := 0) ((((T[i]!).X[k]!).toNat) * 3) 0 0 (sl_old hS) rfl rfl (flat_lt (enc := sg) (fun _ => rfl) G (((T[i]!).X[k]!).toNat) 0 (by omega) (by decide)) Try.underlying89 rfl rfl (by kernel_rfl)) ?_
    simp only [Nat.reduceAdd, Act.put, Xa, Xz, Xs]
    refine ws_read (.int .i64 ((G[((T[i]!).X[k]!).toNat]!).len)) rfl rfl (er_cell ((((T[i]!).X[k]!).toNat) * 3 + 0) (.int .i64 ((G[((T[i]!).X[k]!).toNat]!).len)) (sl_old hS) rfl rfl (flat_cell (enc := sg) (fun _ => rfl) G (((T[i]!).X[k]!).toNat) 0 (by omega) (by decide)) Try.isAgg2) ?_
    simp only [Nat.reduceAdd, Act.put, Xa, Xz, Xs]
    refine ws_late (.int .i64 (a + ((G[((T[i]!).X[k]!).toNat]!).len))) rfl rfl (fun w => run_arith (op := .add) rfl rfl rfl Try.underlying2 (congrArg some (i64_in (by omega) (by omega))) w) ?_
    simp only [Nat.reduceAdd, Act.put, Xa, Xz, Xs]
    refine ws_late (.int .i64 (a + ((G[((T[i]!).X[k]!).toNat]!).len))) rfl rfl (fun _ => rfl) ?_
    simp only [Nat.reduceAdd, Act.put, Xa, Xz, Xs]
    refine ws_nil [] trivial (by simp) ?_
    intro ps9
    simp only [fin, List.foldl_nil, List.map, List.nil_append]
    refine we_in ?_
    refine we_then ?_
    refine wc_region ?_
    refine wl_val (.int .i64 (k : Int)) rfl (fun _ => rfl) ?_
    simp only [Act.put, Xa, Xz, Xs]
    refine wl_val (.int .i64 ((k + 1 : Nat) : Int)) rfl (fun w => run_nat (X := k) (Y := 1) (Z := k + 1) rfl rfl rfl rfl (by omega) w) ?_
    simp only [Act.put, Xa, Xz, Xs]
    refine wl_val (.int .i64 ((k + 1 : Nat) : Int)) rfl (fun _ => rfl) ?_
    simp only [Act.put, Xa, Xz, Xs]
    refine wl_nil ?_
    exact we_meet ⟨(k + 1), (a + (G[((T[i]!).X[k]!).toNat]!).len), (ins ltZ (a + (H[gi]!).off) Q2).length, s8, (ins ltZ (a + (H[gi]!).off) Q2), _, _, _, _, _, _, _, _, _, _, _, _, _, _, _, _, _, _, _, _, _, _, _, _, _, _, _, _, _, _, _, _, _, _, _, _, _, _, _, _, _, _, _, _, _, _, _, _, _, _⟩ (by (try dsimp only); exact ⟨⟨by omega, by rw [end_snoc G f (T[i]!).X (by omega), ← d2], plr_yes d3 (by omega) d2, rfl, hs8⟩, by omega⟩) rfl (List.Sublist.cons_cons _ (List.Sublist.cons_cons _ (List.Sublist.append_left (List.sublist_append_of_sublist_right List.Sublist.slnil) _)))
end Go.Proofs.Ytjbhlcklgmgdpaa.Rtplc
