/-
  The reference of layer 11 (tracks): which may be, the grades of all, what comes behind what. Condition: at most 2^47 of each.
  The helpers of layer 11's laws: a track as the document has it (a copy, its pieces in an open number of rows); is it too great.
-/
import Derived.Test.YtbacchdkankioaaMtk
import Derived.Test.YtbacchdkankioaaGref
namespace Go.Proofs.Ytbacchdkankioaa.Tkref
open Go.ChangeShapes Go.WideShapes Go.ChangeAt Go.RowKit
open Arr Steady Sx Sw Sl Sb Sc Vs Gr Gref Tk
set_option linter.unusedVariables false
set_option linter.unusedSimpArgs false
set_option maxRecDepth 100000

set_option maxHeartbeats 2000000 in
theorem segment_any (s : Sg) (m : Int) (w : World) (hs : OkSg w s) :
  Calls Try.prog 36 #[.agg #[.int .i64 s.len, .slice s.pp s.P.length s.pc, .slice s.np s.X.length s.nc], .int .i64 m] w fun e w' => e = .returned (.bool (segB s m)) ∧ Below w.heap.size w w' := by
 have f1 := hs.fewP
 have f2 := hs.fewX
 refine calls_sx Try.func36 rfl ?_
 simp only [Try.ntmps36, List.size_toArray, List.length_cons, List.length_nil, Nat.reduceAdd, Nat.reduceSub, Array.replicate_succ, Array.replicate_zero, List.push_toArray, List.append_toArray, List.nil_append, List.cons_append]
 refine wc_seq ?_
 refine wc_region ?_
 refine wl_new 88 (#[.int .i64 s.len, .slice s.pp s.P.length s.pc, .slice s.np s.X.length s.nc]) rfl (fun _ => by go_simp) ?_
 intro g1
 simp only [Act.put, Xa, Xz, Xs]
 refine wl_val (.bool false) rfl (fun _ => rfl) ?_
 simp only [Act.put, Xa, Xz, Xs]
 refine wl_nil ?_
 refine we_then ?_
 refine wc_seq ?_
 refine wc_seq ?_
 refine wc_region ?_
 refine wl_val (.pointer (some ⟨g1, 0, none⟩)) rfl (fun _ => by go_simp) ?_
 simp only [Act.put, Xa, Xz, Xs]
 refine wl_cell 2 (.tmp 6) (.int .i64 s.len) (own_row 0 rfl) rfl rfl rfl rfl Try.isAgg2 ?_
 simp only [Act.put, Xa, Xz, Xs]
 refine wl_val (.bool (decide (s.len < 1))) rfl (fun w => run_cmp rfl rfl rfl Try.underlying2 rfl w) ?_
 simp only [Act.put, Xa, Xz, Xs]
 refine wl_val (.bool (decide (s.len < 1))) rfl (fun _ => rfl) ?_
 simp only [Act.put, Xa, Xz, Xs]
 cases h2 : (decide (s.len < 1))
 ·
  skip
  have p2 : ¬ (s.len < 1) := of_decide_eq_false h2
  refine wl_val (.pointer (some ⟨g1, 0, none⟩)) rfl (fun _ => by go_simp) ?_
  simp only [Act.put, Xa, Xz, Xs]
  refine wl_cell 2 (.tmp 10) (.int .i64 s.len) (own_row 0 rfl) rfl rfl rfl rfl Try.isAgg2 ?_
  simp only [Act.put, Xa, Xz, Xs]
  refine wl_val (.bool (decide (1099511627776 < s.len))) rfl (fun w => run_cmp rfl rfl rfl Try.underlying2 rfl w) ?_
  simp only [Act.put, Xa, Xz, Xs]
  refine wl_val (.bool (decide (1099511627776 < s.len))) rfl (fun _ => rfl) ?_
  simp only [Act.put, Xa, Xz, Xs]
  refine wl_val (.bool (decide (1099511627776 < s.len))) rfl (fun _ => rfl) ?_
  simp only [Act.put, Xa, Xz, Xs]
  cases h3 : (decide (1099511627776 < s.len))
  ·
   skip
   have p3 : ¬ (1099511627776 < s.len) := of_decide_eq_false h3
   refine wl_val (.pointer (some ⟨g1, 1, none⟩)) rfl (fun _ => by go_simp) ?_
   simp only [Act.put, Xa, Xz, Xs]
   refine wl_cell 86 (.tmp 15) (.slice s.pp s.P.length s.pc) (own_row 0 rfl) rfl rfl rfl rfl Try.isAgg86 ?_
   simp only [Act.put, Xa, Xz, Xs]
   refine wl_val (.pointer (some ⟨g1, 0, none⟩)) rfl (fun _ => by go_simp) ?_
   simp only [Act.put, Xa, Xz, Xs]
   refine wl_cell 2 (.tmp 17) (.int .i64 s.len) (own_row 0 rfl) rfl rfl rfl rfl Try.isAgg2 ?_
   simp only [Act.put, Xa, Xz, Xs]
   refine wl_call_at 49 #[.slice s.pp s.P.length s.pc, .int .i64 s.len] (.bool (mayB s.P s.len)) rfl (fun _ => by go_simp) (fun W hE => may_any s.P _ _ s.len W ((sl_old hs.p) W hE) (by omega)) ?_
   simp only [Act.put, Xa, Xz, Xs]
   refine wl_val (.bool (!(mayB s.P s.len))) rfl (fun _ => by go_simp) ?_
   simp only [Act.put, Xa, Xz, Xs]
   refine wl_val (.bool (!(mayB s.P s.len))) rfl (fun _ => rfl) ?_
   simp only [Act.put, Xa, Xz, Xs]
   refine wl_val (.bool (!(mayB s.P s.len))) rfl (fun _ => rfl) ?_
   simp only [Act.put, Xa, Xz, Xs]
   cases h4 : (mayB s.P s.len)
   ·
    skip
    refine wl_skip rfl ?_
    simp only [Act.put, Xa, Xz, Xs]
    refine wl_skip rfl ?_
    simp only [Act.put, Xa, Xz, Xs]
    refine wl_skip rfl ?_
    simp only [Act.put, Xa, Xz, Xs]
    refine wl_skip rfl ?_
    simp only [Act.put, Xa, Xz, Xs]
    refine wl_val (.bool true) rfl (fun _ => rfl) ?_
    simp only [Act.put, Xa, Xz, Xs]
    refine wl_nil ?_
    refine we_then ?_
    refine wc_true rfl ?_
    refine wc_seq ?_
    refine wc_region ?_
    refine wl_val (.bool false) rfl (fun _ => rfl) ?_
    simp only [Act.put, Xa, Xz, Xs]
    refine wl_nil ?_
    refine we_then ?_
    refine wc_ret ?_
    refine we_then_ret ?_
    refine we_ret1 (.bool false) rfl rfl rfl (fun w1 hE => ?_)
    have km := not_may h4
    rw [segB_no (fun k => km k.may)]
    exact ⟨rfl, hE.below⟩
   ·
    skip
    refine wl_val (.pointer (some ⟨g1, 2, none⟩)) rfl (fun _ => by go_simp) ?_
    simp only [Act.put, Xa, Xz, Xs]
    refine wl_cell 63 (.tmp 23) (.slice s.np s.X.length s.nc) (own_row 0 rfl) rfl rfl rfl rfl Try.isAgg63 ?_
    simp only [Act.put, Xa, Xz, Xs]
    refine wl_val (.int .i64 (s.X.length : Int)) rfl (fun w => er_len rfl rfl Try.underlying63 w) ?_
    simp only [Act.put, Xa, Xz, Xs]
    refine wl_val (.bool (decide (2 < (s.X.length : Int)))) rfl (fun w => run_cmp rfl rfl rfl Try.underlying3 rfl w) ?_
    simp only [Act.put, Xa, Xz, Xs]
    refine wl_val (.bool (decide (2 < (s.X.length : Int)))) rfl (fun _ => rfl) ?_
    simp only [Act.put, Xa, Xz, Xs]
    refine wl_nil ?_
    refine we_then ?_
    cases h5 : (decide (2 < (s.X.length : Int)))
    ·
     skip
     have p5 : ¬ (2 < (s.X.length : Int)) := of_decide_eq_false h5
     refine wc_false rfl ?_
     refine wc_skip ?_
     refine we_then ?_
     refine wc_seq ?_
     refine wc_seq ?_
     refine wc_region ?_
     refine wl_val (.int .i64 0) rfl (fun _ => rfl) ?_
     simp only [Act.put, Xa, Xz, Xs]
     refine wl_nil ?_
     refine we_then ?_
     refine wc_block ?_
     refine wc_loop (fun (zz : Nat × Value × Value × Value × Value × Value × Value × Value × Value × Value × Value × Value × Value × Value × Value × Value × Value × Value × Value × Value × Value × Value × Value × Value) => match zz with | ⟨i, u4, u28, u29, u30, u31, u32, u33, u34, u35, u36, u37, u38, u39, u40, u41, u42, u43, u44, u45, u46, u47, u48, u49⟩ => ({ tmps := #[.agg #[.int .i64 s.len, .slice s.pp s.P.length s.pc, .slice s.np s.X.length s.nc], .int .i64 m, .pointer (some ⟨g1, 0, none⟩), undef, u4, .int .i64 (i : Int), .pointer (some ⟨g1, 0, none⟩), .int .i64 s.len, .bool false, .bool false, .pointer (some ⟨g1, 0, none⟩), .int .i64 s.len, .bool false, .bool false, .bool false, .pointer (some ⟨g1, 1, none⟩), .slice s.pp s.P.length s.pc, .pointer (some ⟨g1, 0, none⟩), .int .i64 s.len, .bool true, .bool false, .bool false, .bool false, .pointer (some ⟨g1, 2, none⟩), .slice s.np s.X.length s.nc, .int .i64 (s.X.length : Int), .bool false, .bool false, u28, u29, u30, u31, u32, u33, u34, u35, u36, u37, u38, u39, u40, u41, u42, u43, u44, u45, u46, u47, u48, u49, undef, undef, undef, undef, undef, undef, undef, undef, undef, undef, undef, undef, undef, undef, undef], defers := [] } : Act)) (fun (zz : Nat × Value × Value × Value × Value × Value × Value × Value × Value × Value × Value × Value × Value × Value × Value × Value × Value × Value × Value × Value × Value × Value × Value × Value) => match zz with | ⟨i, u4, u28, u29, u30, u31, u32, u33, u34, u35, u36, u37, u38, u39, u40, u41, u42, u43, u44, u45, u46, u47, u48, u49⟩ => [⟨g1, #[.int .i64 s.len, .slice s.pp s.P.length s.pc, .slice s.np s.X.length s.nc], 88⟩]) (fun (zz : Nat × Value × Value × Value × Value × Value × Value × Value × Value × Value × Value × Value × Value × Value × Value × Value × Value × Value × Value × Value × Value × Value × Value × Value) => match zz with | ⟨i, u4, u28, u29, u30, u31, u32, u33, u34, u35, u36, u37, u38, u39, u40, u41, u42, u43, u44, u45, u46, u47, u48, u49⟩ => i ≤ s.X.length ∧ ∀ j, j < i → 0 ≤ s.X[j]! ∧ s.X[j]! < m) (fun (zz : Nat × Value × Value × Value × Value × Value × Value × Value × Value × Value × Value × Value × Value × Value × Value × Value × Value × Value × Value × Value × Value × Value × Value × Value) => match zz with | ⟨i, u4, u28, u29, u30, u31, u32, u33, u34, u35, u36, u37, u38, u39, u40, u41, u42, u43, u44, u45, u46, u47, u48, u49⟩ => s.X.length - i) ⟨0, _, _, _, _, _, _, _, _, _, _, _, _, _, _, _, _, _, _, _, _, _, _, _⟩ ⟨Nat.zero_le _, fun j hj => absurd hj (Nat.not_lt_zero j)⟩ rfl (List.Sublist.cons_cons _ List.Sublist.slnil) ?_
     rintro ⟨i, u4, u28, u29, u30, u31, u32, u33, u34, u35, u36, u37, u38, u39, u40, u41, u42, u43, u44, u45, u46, u47, u48, u49⟩ hφ
     (try dsimp only at hφ ⊢)
     obtain ⟨b1, b2⟩ := hφ
     refine wc_seq ?_
     refine wc_seq ?_
     refine wc_region ?_
     refine wl_val (.int .i64 (i : Int)) rfl (fun _ => rfl) ?_
     simp only [Act.put, Xa, Xz, Xs]
     refine wl_val (.pointer (some ⟨g1, 2, none⟩)) rfl (fun _ => by go_simp) ?_
     simp only [Act.put, Xa, Xz, Xs]
     refine wl_cell 63 (.tmp 29) (.slice s.np s.X.length s.nc) (own_row 0 rfl) rfl rfl rfl rfl Try.isAgg63 ?_
     simp only [Act.put, Xa, Xz, Xs]
     refine wl_val (.int .i64 (s.X.length : Int)) rfl (fun w => er_len rfl rfl Try.underlying63 w) ?_
     simp only [Act.put, Xa, Xz, Xs]
     refine wl_val (.bool (decide ((i : Int) < (s.X.length : Int)))) rfl (fun w => run_cmp rfl rfl rfl Try.underlying3 rfl w) ?_
     simp only [Act.put, Xa, Xz, Xs]
     refine wl_nil ?_
     refine we_then ?_
     cases h6 : (decide ((i : Int) < (s.X.length : Int)))
     ·
      skip
      have p6 : ¬ ((i : Int) < (s.X.length : Int)) := of_decide_eq_false h6
      refine wc_false rfl ?_
      refine wc_exit ?_
      refine we_then_exit ?_
      refine we_then_exit ?_
      refine we_in_here ?_
      refine we_then ?_
      refine wc_seq ?_
      refine wc_draw [.late, .plain, .late, .late, .late, .late, .plain, .plain, .plain, .late, .plain, .plain, .plain, .late, .late, .late] none [] 65 (by kernel_rfl) rfl (by kernel_rfl) (by kernel_rfl) ?_
      refine ws_late (.pointer (some ⟨g1, 2, none⟩)) rfl rfl (fun _ => by go_simp) ?_
      simp only [Nat.reduceAdd, Act.put, Xa, Xz, Xs]
      refine ws_cell 63 (.tmp 50) (.slice s.np s.X.length s.nc) (own_row 0 rfl) rfl rfl rfl rfl rfl Try.isAgg63 ?_
      simp only [Nat.reduceAdd, Act.put, Xa, Xz, Xs]
      refine ws_late (.int .i64 (s.X.length : Int)) rfl rfl (fun w => er_len rfl rfl Try.underlying63 w) ?_
      simp only [Nat.reduceAdd, Act.put, Xa, Xz, Xs]
      refine ws_late (.bool (decide ((s.X.length : Int) < 2))) rfl rfl (fun w => run_cmp rfl rfl rfl Try.underlying3 rfl w) ?_
      simp only [Nat.reduceAdd, Act.put, Xa, Xz, Xs]
      refine ws_late (.bool (decide ((s.X.length : Int) < 2))) rfl rfl (fun _ => rfl) ?_
      simp only [Nat.reduceAdd, Act.put, Xa, Xz, Xs]
      cases h7 : (decide ((s.X.length : Int) < 2))
      ·
       skip
       have p7 : ¬ ((s.X.length : Int) < 2) := of_decide_eq_false h7
       refine ws_late (.pointer (some ⟨g1, 2, none⟩)) rfl rfl (fun _ => by go_simp) ?_
       simp only [Nat.reduceAdd, Act.put, Xa, Xz, Xs]
       refine ws_cell 63 (.tmp 55) (.slice s.np s.X.length s.nc) (own_row 0 rfl) rfl rfl rfl rfl rfl Try.isAgg63 ?_
       simp only [Nat.reduceAdd, Act.put, Xa, Xz, Xs]
       refine ws_read (eaddr s.np (0 * 1)) rfl rfl (er_index 0 1 (sl_old hs.x) rfl rfl rfl rfl (by omega) (flat_length (enc := enc1) (size := 1) (fun _ => rfl) _) (by decide) Try.underlying63 (by kernel_rfl)) ?_
       simp only [Nat.reduceAdd, Act.put, Xa, Xz, Xs]
       refine ws_read (.int .i64 (s.X[0]!)) rfl rfl (er_cell (0 * 1) (.int .i64 (s.X[0]!)) (sl_old hs.x) rfl rfl (flat_cell (enc := enc1) (fun _ => rfl) s.X 0 0 (by omega) (by decide)) Try.isAgg3) ?_
       simp only [Nat.reduceAdd, Act.put, Xa, Xz, Xs]
       refine ws_late (.pointer (some ⟨g1, 2, none⟩)) rfl rfl (fun _ => by go_simp) ?_
       simp only [Nat.reduceAdd, Act.put, Xa, Xz, Xs]
       refine ws_cell 63 (.tmp 59) (.slice s.np s.X.length s.nc) (own_row 0 rfl) rfl rfl rfl rfl rfl Try.isAgg63 ?_
       simp only [Nat.reduceAdd, Act.put, Xa, Xz, Xs]
       refine ws_read (eaddr s.np (1 * 1)) rfl rfl (er_index 1 1 (sl_old hs.x) rfl rfl rfl rfl (by omega) (flat_length (enc := enc1) (size := 1) (fun _ => rfl) _) (by decide) Try.underlying63 (by kernel_rfl)) ?_
       simp only [Nat.reduceAdd, Act.put, Xa, Xz, Xs]
       refine ws_read (.int .i64 (s.X[1]!)) rfl rfl (er_cell (1 * 1) (.int .i64 (s.X[1]!)) (sl_old hs.x) rfl rfl (flat_cell (enc := enc1) (fun _ => rfl) s.X 1 0 (by omega) (by decide)) Try.isAgg3) ?_
       simp only [Nat.reduceAdd, Act.put, Xa, Xz, Xs]
       refine ws_late (.bool (decide ((s.X[0]!) < (s.X[1]!)))) rfl rfl (fun w => run_cmp rfl rfl rfl Try.underlying3 rfl w) ?_
       simp only [Nat.reduceAdd, Act.put, Xa, Xz, Xs]
       refine ws_late (.bool (decide ((s.X[0]!) < (s.X[1]!)))) rfl rfl (fun _ => rfl) ?_
       simp only [Nat.reduceAdd, Act.put, Xa, Xz, Xs]
       refine ws_late (.bool (decide ((s.X[0]!) < (s.X[1]!)))) rfl rfl (fun _ => rfl) ?_
       simp only [Nat.reduceAdd, Act.put, Xa, Xz, Xs]
       refine ws_nil [] trivial (by simp) ?_
       intro ps8
       simp only [fin, List.foldl_nil, List.map, List.nil_append]
       refine we_then ?_
       refine wc_ret ?_
       refine we_ret1 (.bool (decide ((s.X[0]!) < (s.X[1]!)))) rfl rfl rfl (fun w1 hE => ?_)
       have km := may_of h4
       have e0 : segB s m = (decide ((s.X[0]!) < (s.X[1]!))) := by
        by_cases h0 : s.X[0]! < s.X[1]!
        ·
         rw [segB_yes ⟨by omega, by omega, km, by omega, fun j hj => b2 j (by omega), fun _ => h0⟩]; exact (decide_eq_true h0).symm
        ·
         rw [segB_no (fun k => h0 (k.up (by omega)))]; exact (decide_eq_false h0).symm
       exact ⟨by rw [e0], hE.below⟩
      ·
       skip
       have p7 : (s.X.length : Int) < 2 := of_decide_eq_true h7
       refine ws_skip_late rfl rfl ?_
       simp only [Nat.reduceAdd, Act.put, Xa, Xz, Xs]
       refine ws_skip rfl rfl ?_
       simp only [Nat.reduceAdd, Act.put, Xa, Xz, Xs]
       refine ws_skip rfl rfl ?_
       simp only [Nat.reduceAdd, Act.put, Xa, Xz, Xs]
       refine ws_skip rfl rfl ?_
       simp only [Nat.reduceAdd, Act.put, Xa, Xz, Xs]
       refine ws_skip_late rfl rfl ?_
       simp only [Nat.reduceAdd, Act.put, Xa, Xz, Xs]
       refine ws_skip rfl rfl ?_
       simp only [Nat.reduceAdd, Act.put, Xa, Xz, Xs]
       refine ws_skip rfl rfl ?_
       simp only [Nat.reduceAdd, Act.put, Xa, Xz, Xs]
       refine ws_skip rfl rfl ?_
       simp only [Nat.reduceAdd, Act.put, Xa, Xz, Xs]
       refine ws_skip_late rfl rfl ?_
       simp only [Nat.reduceAdd, Act.put, Xa, Xz, Xs]
       refine ws_late (.bool true) rfl rfl (fun _ => rfl) ?_
       simp only [Nat.reduceAdd, Act.put, Xa, Xz, Xs]
       refine ws_late (.bool true) rfl rfl (fun _ => rfl) ?_
       simp only [Nat.reduceAdd, Act.put, Xa, Xz, Xs]
       refine ws_nil [] trivial (by simp) ?_
       intro ps9
       simp only [fin, List.foldl_nil, List.map, List.nil_append]
       refine we_then ?_
       refine wc_ret ?_
       refine we_ret1 (.bool true) rfl rfl rfl (fun w1 hE => ?_)
       have km := may_of h4
       rw [segB_yes ⟨by omega, by omega, km, by omega, fun j hj => b2 j (by omega), fun h => by omega⟩]
       exact ⟨rfl, hE.below⟩
     ·
      skip
      have p6 : (i : Int) < (s.X.length : Int) := of_decide_eq_true h6
      refine wc_true rfl ?_
      refine wc_skip ?_
      refine we_then ?_
      refine wc_seq ?_
      refine wc_block ?_
      refine wc_seq ?_
      refine wc_region ?_
      refine wl_val (.pointer (some ⟨g1, 2, none⟩)) rfl (fun _ => by go_simp) ?_
      simp only [Act.put, Xa, Xz, Xs]
      refine wl_cell 63 (.tmp 35) (.slice s.np s.X.length s.nc) (own_row 0 rfl) rfl rfl rfl rfl Try.isAgg63 ?_
      simp only [Act.put, Xa, Xz, Xs]
      refine wl_val (.int .i64 (i : Int)) rfl (fun _ => rfl) ?_
      simp only [Act.put, Xa, Xz, Xs]
      refine wl_read (eaddr s.np (i * 1)) rfl (er_index i 1 (sl_old hs.x) rfl rfl rfl rfl (by omega) (flat_length (enc := enc1) (size := 1) (fun _ => rfl) _) (by decide) Try.underlying63 (by kernel_rfl)) ?_
      simp only [Act.put, Xa, Xz, Xs]
      refine wl_read (.int .i64 (s.X[i]!)) rfl (er_cell (i * 1) (.int .i64 (s.X[i]!)) (sl_old hs.x) rfl rfl (flat_cell (enc := enc1) (fun _ => rfl) s.X i 0 (by omega) (by decide)) Try.isAgg3) ?_
      simp only [Act.put, Xa, Xz, Xs]
      refine wl_val (.bool (decide ((s.X[i]!) < 0))) rfl (fun w => run_cmp rfl rfl rfl Try.underlying3 rfl w) ?_
      simp only [Act.put, Xa, Xz, Xs]
      refine wl_val (.bool (decide ((s.X[i]!) < 0))) rfl (fun _ => rfl) ?_
      simp only [Act.put, Xa, Xz, Xs]
      cases h10 : (decide ((s.X[i]!) < 0))
      ·
       skip
       have p10 : ¬ ((s.X[i]!) < 0) := of_decide_eq_false h10
       refine wl_val (.pointer (some ⟨g1, 2, none⟩)) rfl (fun _ => by go_simp) ?_
       simp only [Act.put, Xa, Xz, Xs]
       refine wl_cell 63 (.tmp 42) (.slice s.np s.X.length s.nc) (own_row 0 rfl) rfl rfl rfl rfl Try.isAgg63 ?_
       simp only [Act.put, Xa, Xz, Xs]
       refine wl_val (.int .i64 (i : Int)) rfl (fun _ => rfl) ?_
       simp only [Act.put, Xa, Xz, Xs]
       refine wl_read (eaddr s.np (i * 1)) rfl (er_index i 1 (sl_old hs.x) rfl rfl rfl rfl (by omega) (flat_length (enc := enc1) (size := 1) (fun _ => rfl) _) (by decide) Try.underlying63 (by kernel_rfl)) ?_
       simp only [Act.put, Xa, Xz, Xs]
       refine wl_read (.int .i64 (s.X[i]!)) rfl (er_cell (i * 1) (.int .i64 (s.X[i]!)) (sl_old hs.x) rfl rfl (flat_cell (enc := enc1) (fun _ => rfl) s.X i 0 (by omega) (by decide)) Try.isAgg3) ?_
       simp only [Act.put, Xa, Xz, Xs]
       refine wl_val (.int .i64 m) rfl (fun _ => rfl) ?_
       simp only [Act.put, Xa, Xz, Xs]
       refine wl_val (.bool (decide (m ≤ (s.X[i]!)))) rfl (fun w => run_cmp rfl rfl rfl Try.underlying3 rfl w) ?_
       simp only [Act.put, Xa, Xz, Xs]
       refine wl_val (.bool (decide (m ≤ (s.X[i]!)))) rfl (fun _ => rfl) ?_
       simp only [Act.put, Xa, Xz, Xs]
       refine wl_nil ?_
       refine we_then ?_
       cases h11 : (decide (m ≤ (s.X[i]!)))
       ·
        skip
        have p11 : ¬ (m ≤ (s.X[i]!)) := of_decide_eq_false h11
        refine wc_false rfl ?_
        refine wc_skip ?_
        refine we_in ?_
        refine we_then ?_
        refine wc_region ?_
        refine wl_val (.int .i64 (i : Int)) rfl (fun _ => rfl) ?_
        simp only [Act.put, Xa, Xz, Xs]
        refine wl_val (.int .i64 ((i + 1 : Nat) : Int)) rfl (fun w => run_nat (X := i) (Y := 1) (Z := i + 1) rfl rfl rfl rfl (by omega) w) ?_
        simp only [Act.put, Xa, Xz, Xs]
        refine wl_val (.int .i64 ((i + 1 : Nat) : Int)) rfl (fun _ => rfl) ?_
        simp only [Act.put, Xa, Xz, Xs]
        refine wl_nil ?_
        exact we_meet ⟨(i + 1), _, _, _, _, _, _, _, _, _, _, _, _, _, _, _, _, _, _, _, _, _, _, _⟩ ⟨⟨by (try dsimp only); omega, fun j hj => by rcases Nat.lt_or_eq_of_le (Nat.le_of_lt_succ hj) with h | h; exact b2 j h; subst h; exact ⟨by omega, by omega⟩⟩, by (try dsimp only); omega⟩ rfl (List.Sublist.cons_cons _ List.Sublist.slnil)
       ·
        skip
        have p11 : m ≤ (s.X[i]!) := of_decide_eq_true h11
        refine wc_true rfl ?_
        refine wc_seq ?_
        refine wc_region ?_
        refine wl_val (.bool false) rfl (fun _ => rfl) ?_
        simp only [Act.put, Xa, Xz, Xs]
        refine wl_nil ?_
        refine we_then ?_
        refine wc_ret ?_
        refine we_in_ret ?_
        refine we_then_ret ?_
        refine we_then_ret ?_
        refine we_in_ret ?_
        refine we_then_ret ?_
        refine we_ret1 (.bool false) rfl rfl rfl (fun w1 hE => ?_)
        have km := may_of h4
        rw [segB_no (fun k => by have k1 := k.each i (by omega); omega)]
        exact ⟨rfl, hE.below⟩
      ·
       skip
       have p10 : (s.X[i]!) < 0 := of_decide_eq_true h10
       refine wl_skip rfl ?_
       simp only [Act.put, Xa, Xz, Xs]
       refine wl_skip rfl ?_
       simp only [Act.put, Xa, Xz, Xs]
       refine wl_skip rfl ?_
       simp only [Act.put, Xa, Xz, Xs]
       refine wl_skip rfl ?_
       simp only [Act.put, Xa, Xz, Xs]
       refine wl_skip rfl ?_
       simp only [Act.put, Xa, Xz, Xs]
       refine wl_skip rfl ?_
       simp only [Act.put, Xa, Xz, Xs]
       refine wl_skip rfl ?_
       simp only [Act.put, Xa, Xz, Xs]
       refine wl_val (.bool true) rfl (fun _ => rfl) ?_
       simp only [Act.put, Xa, Xz, Xs]
       refine wl_nil ?_
       refine we_then ?_
       refine wc_true rfl ?_
       refine wc_seq ?_
       refine wc_region ?_
       refine wl_val (.bool false) rfl (fun _ => rfl) ?_
       simp only [Act.put, Xa, Xz, Xs]
       refine wl_nil ?_
       refine we_then ?_
       refine wc_ret ?_
       refine we_in_ret ?_
       refine we_then_ret ?_
       refine we_then_ret ?_
       refine we_in_ret ?_
       refine we_then_ret ?_
       refine we_ret1 (.bool false) rfl rfl rfl (fun w1 hE => ?_)
       have km := may_of h4
       rw [segB_no (fun k => by have k1 := k.each i (by omega); omega)]
       exact ⟨rfl, hE.below⟩
    ·
     skip
     have p5 : 2 < (s.X.length : Int) := of_decide_eq_true h5
     refine wc_true rfl ?_
     refine wc_seq ?_
     refine wc_region ?_
     refine wl_val (.bool false) rfl (fun _ => rfl) ?_
     simp only [Act.put, Xa, Xz, Xs]
     refine wl_nil ?_
     refine we_then ?_
     refine wc_ret ?_
     refine we_then_ret ?_
     refine we_ret1 (.bool false) rfl rfl rfl (fun w1 hE => ?_)
     have km := may_of h4
     rw [segB_no (fun k => by have k1 := k.low; have k2 := k.high; have k3 := k.two; omega)]
     exact ⟨rfl, hE.below⟩
  ·
   skip
   have p3 : 1099511627776 < s.len := of_decide_eq_true h3
   refine wl_skip rfl ?_
   simp only [Act.put, Xa, Xz, Xs]
   refine wl_skip rfl ?_
   simp only [Act.put, Xa, Xz, Xs]
   refine wl_skip rfl ?_
   simp only [Act.put, Xa, Xz, Xs]
   refine wl_skip rfl ?_
   simp only [Act.put, Xa, Xz, Xs]
   refine wl_skip rfl ?_
   simp only [Act.put, Xa, Xz, Xs]
   refine wl_skip rfl ?_
   simp only [Act.put, Xa, Xz, Xs]
   refine wl_val (.bool true) rfl (fun _ => rfl) ?_
   simp only [Act.put, Xa, Xz, Xs]
   refine wl_val (.bool true) rfl (fun _ => rfl) ?_
   simp only [Act.put, Xa, Xz, Xs]
   refine wl_skip rfl ?_
   simp only [Act.put, Xa, Xz, Xs]
   refine wl_skip rfl ?_
   simp only [Act.put, Xa, Xz, Xs]
   refine wl_skip rfl ?_
   simp only [Act.put, Xa, Xz, Xs]
   refine wl_skip rfl ?_
   simp only [Act.put, Xa, Xz, Xs]
   refine wl_val (.bool true) rfl (fun _ => rfl) ?_
   simp only [Act.put, Xa, Xz, Xs]
   refine wl_nil ?_
   refine we_then ?_
   refine wc_true rfl ?_
   refine wc_seq ?_
   refine wc_region ?_
   refine wl_val (.bool false) rfl (fun _ => rfl) ?_
   simp only [Act.put, Xa, Xz, Xs]
   refine wl_nil ?_
   refine we_then ?_
   refine wc_ret ?_
   refine we_then_ret ?_
   refine we_ret1 (.bool false) rfl rfl rfl (fun w1 hE => ?_)
   rw [segB_no (fun k => by have k1 := k.low; have k2 := k.high; have k3 := k.two; omega)]
   exact ⟨rfl, hE.below⟩
 ·
  skip
  have p2 : s.len < 1 := of_decide_eq_true h2
  refine wl_skip rfl ?_
  simp only [Act.put, Xa, Xz, Xs]
  refine wl_skip rfl ?_
  simp only [Act.put, Xa, Xz, Xs]
  refine wl_skip rfl ?_
  simp only [Act.put, Xa, Xz, Xs]
  refine wl_val (.bool true) rfl (fun _ => rfl) ?_
  simp only [Act.put, Xa, Xz, Xs]
  refine wl_val (.bool true) rfl (fun _ => rfl) ?_
  simp only [Act.put, Xa, Xz, Xs]
  refine wl_skip rfl ?_
  simp only [Act.put, Xa, Xz, Xs]
  refine wl_skip rfl ?_
  simp only [Act.put, Xa, Xz, Xs]
  refine wl_skip rfl ?_
  simp only [Act.put, Xa, Xz, Xs]
  refine wl_skip rfl ?_
  simp only [Act.put, Xa, Xz, Xs]
  refine wl_skip rfl ?_
  simp only [Act.put, Xa, Xz, Xs]
  refine wl_skip rfl ?_
  simp only [Act.put, Xa, Xz, Xs]
  refine wl_val (.bool true) rfl (fun _ => rfl) ?_
  simp only [Act.put, Xa, Xz, Xs]
  refine wl_val (.bool true) rfl (fun _ => rfl) ?_
  simp only [Act.put, Xa, Xz, Xs]
  refine wl_skip rfl ?_
  simp only [Act.put, Xa, Xz, Xs]
  refine wl_skip rfl ?_
  simp only [Act.put, Xa, Xz, Xs]
  refine wl_skip rfl ?_
  simp only [Act.put, Xa, Xz, Xs]
  refine wl_skip rfl ?_
  simp only [Act.put, Xa, Xz, Xs]
  refine wl_val (.bool true) rfl (fun _ => rfl) ?_
  simp only [Act.put, Xa, Xz, Xs]
  refine wl_nil ?_
  refine we_then ?_
  refine wc_true rfl ?_
  refine wc_seq ?_
  refine wc_region ?_
  refine wl_val (.bool false) rfl (fun _ => rfl) ?_
  simp only [Act.put, Xa, Xz, Xs]
  refine wl_nil ?_
  refine we_then ?_
  refine wc_ret ?_
  refine we_then_ret ?_
  refine we_ret1 (.bool false) rfl rfl rfl (fun w1 hE => ?_)
  rw [segB_no (fun k => by have k1 := k.low; have k2 := k.high; have k3 := k.two; omega)]
  exact ⟨rfl, hE.below⟩
set_option maxHeartbeats 8000000 in
theorem check_any (G : List Sg) (H : List Gp) (p q : Option Addr) (c d : Nat) (w : World) (hS : Reads w p (flat sg G)) (hG : OkS w G) (hH : Reads w q (flat gp H)) (hn : G.length ≤ 140737488355328) (hm : H.length ≤ 140737488355328) :
  Calls Try.prog 19 #[.agg #[.slice p G.length c, .slice q H.length d]] w fun e w' => e = .returned (.tuple #[.int .i64 (((chk G H).1 : Nat) : Int), .int .i64 (((chk G H).2 : Nat) : Int)]) ∧ Below w.heap.size w w' := by
 refine calls_sx Try.func19 rfl ?_
 simp only [Try.ntmps19, List.size_toArray, List.length_cons, List.length_nil, Nat.reduceAdd, Nat.reduceSub, Array.replicate_succ, Array.replicate_zero, List.push_toArray, List.append_toArray, List.nil_append, List.cons_append]
 refine wc_seq ?_
 refine wc_region ?_
 refine wl_new 50 (#[.slice p G.length c, .slice q H.length d]) rfl (fun _ => by go_simp) ?_
 intro g1
 simp only [Act.put, Xa, Xz, Xs]
 refine wl_val (.int .i64 0) rfl (fun _ => rfl) ?_
 simp only [Act.put, Xa, Xz, Xs]
 refine wl_val (.int .i64 0) rfl (fun _ => rfl) ?_
 simp only [Act.put, Xa, Xz, Xs]
 refine wl_nil ?_
 refine we_then ?_
 refine wc_seq ?_
 refine wc_seq ?_
 refine wc_region ?_
 refine wl_val (.pointer (some ⟨g1, 0, none⟩)) rfl (fun _ => by go_simp) ?_
 simp only [Act.put, Xa, Xz, Xs]
 refine wl_cell 47 (.tmp 8) (.slice p G.length c) (own_row 0 rfl) rfl rfl rfl rfl Try.isAgg47 ?_
 simp only [Act.put, Xa, Xz, Xs]
 refine wl_val (.int .i64 (G.length : Int)) rfl (fun w => er_len rfl rfl Try.underlying47 w) ?_
 simp only [Act.put, Xa, Xz, Xs]
 refine wl_val (.bool (decide ((G.length : Int) < 1))) rfl (fun w => run_cmp rfl rfl rfl Try.underlying3 rfl w) ?_
 simp only [Act.put, Xa, Xz, Xs]
 refine wl_val (.bool (decide ((G.length : Int) < 1))) rfl (fun _ => rfl) ?_
 simp only [Act.put, Xa, Xz, Xs]
 cases h2 : (decide ((G.length : Int) < 1))
 ·
  skip
  have p2 : ¬ ((G.length : Int) < 1) := of_decide_eq_false h2
  refine wl_val (.pointer (some ⟨g1, 0, none⟩)) rfl (fun _ => by go_simp) ?_
  simp only [Act.put, Xa, Xz, Xs]
  refine wl_cell 47 (.tmp 13) (.slice p G.length c) (own_row 0 rfl) rfl rfl rfl rfl Try.isAgg47 ?_
  simp only [Act.put, Xa, Xz, Xs]
  refine wl_val (.int .i64 (G.length : Int)) rfl (fun w => er_len rfl rfl Try.underlying47 w) ?_
  simp only [Act.put, Xa, Xz, Xs]
  refine wl_val (.bool (decide (200 < (G.length : Int)))) rfl (fun w => run_cmp rfl rfl rfl Try.underlying3 rfl w) ?_
  simp only [Act.put, Xa, Xz, Xs]
  refine wl_val (.bool (decide (200 < (G.length : Int)))) rfl (fun _ => rfl) ?_
  simp only [Act.put, Xa, Xz, Xs]
  refine wl_val (.bool (decide (200 < (G.length : Int)))) rfl (fun _ => rfl) ?_
  simp only [Act.put, Xa, Xz, Xs]
  cases h3 : (decide (200 < (G.length : Int)))
  ·
   skip
   have p3 : ¬ (200 < (G.length : Int)) := of_decide_eq_false h3
   refine wl_val (.pointer (some ⟨g1, 1, none⟩)) rfl (fun _ => by go_simp) ?_
   simp only [Act.put, Xa, Xz, Xs]
   refine wl_cell 48 (.tmp 19) (.slice q H.length d) (own_row 0 rfl) rfl rfl rfl rfl Try.isAgg48 ?_
   simp only [Act.put, Xa, Xz, Xs]
   refine wl_val (.int .i64 (H.length : Int)) rfl (fun w => er_len rfl rfl Try.underlying48 w) ?_
   simp only [Act.put, Xa, Xz, Xs]
   refine wl_val (.bool (decide (400 < (H.length : Int)))) rfl (fun w => run_cmp rfl rfl rfl Try.underlying3 rfl w) ?_
   simp only [Act.put, Xa, Xz, Xs]
   refine wl_val (.bool (decide (400 < (H.length : Int)))) rfl (fun _ => rfl) ?_
   simp only [Act.put, Xa, Xz, Xs]
   refine wl_nil ?_
   refine we_then ?_
   cases h4 : (decide (400 < (H.length : Int)))
   ·
    skip
    have p4 : ¬ (400 < (H.length : Int)) := of_decide_eq_false h4
    refine wc_false rfl ?_
    refine wc_skip ?_
    refine we_then ?_
    refine wc_seq ?_
    refine wc_seq ?_
    refine wc_region ?_
    refine wl_val (.int .i64 0) rfl (fun _ => rfl) ?_
    simp only [Act.put, Xa, Xz, Xs]
    refine wl_nil ?_
    refine we_then ?_
    refine wc_block ?_
    refine wc_loop (fun (zz : Nat × Value × Value × Value × Value × Value × Value × Value × Value × Value × Value × Value × Value × Value × Value × Value × Value × Value × Value × Value × Value) => match zz with | ⟨i, u2, u3, u24, u25, u26, u27, u28, u29, u30, u31, u32, u33, u34, u35, u36, u37, u38, u39, u40, u41⟩ => ({ tmps := #[.agg #[.slice p G.length c, .slice q H.length d], .pointer (some ⟨g1, 0, none⟩), u2, u3, .int .i64 (i : Int), undef, undef, undef, .pointer (some ⟨g1, 0, none⟩), .slice p G.length c, .int .i64 (G.length : Int), .bool false, .bool false, .pointer (some ⟨g1, 0, none⟩), .slice p G.length c, .int .i64 (G.length : Int), .bool false, .bool false, .bool false, .pointer (some ⟨g1, 1, none⟩), .slice q H.length d, .int .i64 (H.length : Int), .bool false, .bool false, u24, u25, u26, u27, u28, u29, u30, u31, u32, u33, u34, u35, u36, u37, u38, u39, u40, u41, undef, undef, undef, undef, undef, undef, undef, undef, undef, undef, undef, undef, undef, undef, undef, undef, undef, undef, undef, undef, undef, undef, undef, undef, undef, undef, undef, undef, undef, undef, undef, undef, undef, undef, undef, undef, undef, undef, undef, undef, undef, undef, undef, undef, undef, undef, undef, undef, undef, undef, undef, undef, undef, undef, undef, undef, undef, undef, undef, undef, undef, undef, undef, undef, undef, undef, undef, undef, undef, undef, undef, undef, undef], defers := [] } : Act)) (fun (zz : Nat × Value × Value × Value × Value × Value × Value × Value × Value × Value × Value × Value × Value × Value × Value × Value × Value × Value × Value × Value × Value) => match zz with | ⟨i, u2, u3, u24, u25, u26, u27, u28, u29, u30, u31, u32, u33, u34, u35, u36, u37, u38, u39, u40, u41⟩ => [⟨g1, #[.slice p G.length c, .slice q H.length d], 50⟩]) (fun (zz : Nat × Value × Value × Value × Value × Value × Value × Value × Value × Value × Value × Value × Value × Value × Value × Value × Value × Value × Value × Value × Value) => match zz with | ⟨i, u2, u3, u24, u25, u26, u27, u28, u29, u30, u31, u32, u33, u34, u35, u36, u37, u38, u39, u40, u41⟩ => i ≤ G.length ∧ ∀ j, j < i → SegMay (G[j]!) G.length) (fun (zz : Nat × Value × Value × Value × Value × Value × Value × Value × Value × Value × Value × Value × Value × Value × Value × Value × Value × Value × Value × Value × Value) => match zz with | ⟨i, u2, u3, u24, u25, u26, u27, u28, u29, u30, u31, u32, u33, u34, u35, u36, u37, u38, u39, u40, u41⟩ => G.length - i) ⟨0, _, _, _, _, _, _, _, _, _, _, _, _, _, _, _, _, _, _, _, _⟩ ⟨Nat.zero_le _, fun j hj => absurd hj (Nat.not_lt_zero j)⟩ rfl (List.Sublist.cons_cons _ List.Sublist.slnil) ?_
    rintro ⟨i, u2, u3, u24, u25, u26, u27, u28, u29, u30, u31, u32, u33, u34, u35, u36, u37, u38, u39, u40, u41⟩ hφ
    (try dsimp only at hφ ⊢)
    obtain ⟨b1, b2⟩ := hφ
    refine wc_seq ?_
    refine wc_seq ?_
    refine wc_region ?_
    refine wl_val (.int .i64 (i : Int)) rfl (fun _ => rfl) ?_
    simp only [Act.put, Xa, Xz, Xs]
    refine wl_val (.pointer (some ⟨g1, 0, none⟩)) rfl (fun _ => by go_simp) ?_
    simp only [Act.put, Xa, Xz, Xs]
    refine wl_cell 47 (.tmp 25) (.slice p G.length c) (own_row 0 rfl) rfl rfl rfl rfl Try.isAgg47 ?_
    simp only [Act.put, Xa, Xz, Xs]
    refine wl_val (.int .i64 (G.length : Int)) rfl (fun w => er_len rfl rfl Try.underlying47 w) ?_
    simp only [Act.put, Xa, Xz, Xs]
    refine wl_val (.bool (decide ((i : Int) < (G.length : Int)))) rfl (fun w => run_cmp rfl rfl rfl Try.underlying3 rfl w) ?_
    simp only [Act.put, Xa, Xz, Xs]
    refine wl_nil ?_
    refine we_then ?_
    cases h5 : (decide ((i : Int) < (G.length : Int)))
    ·
     skip
     have p5 : ¬ ((i : Int) < (G.length : Int)) := of_decide_eq_false h5
     refine wc_false rfl ?_
     refine wc_exit ?_
     refine we_then_exit ?_
     refine we_then_exit ?_
     refine we_in_here ?_
     refine we_then ?_
     refine wc_seq ?_
     have a2 : ∀ j, j < G.length → SegMay (G[j]!) G.length := fun j hj => b2 j (by omega)
     clear b2 b1
     refine wc_region ?_
     refine wl_val (.int .i64 0) rfl (fun _ => rfl) ?_
     simp only [Act.put, Xa, Xz, Xs]
     refine wl_nil ?_
     refine we_then ?_
     refine wc_seq ?_
     refine wc_seq ?_
     refine wc_region ?_
     refine wl_val (.int .i64 0) rfl (fun _ => rfl) ?_
     simp only [Act.put, Xa, Xz, Xs]
     refine wl_nil ?_
     refine we_then ?_
     refine wc_block ?_
     refine wc_loop (fun (zz : Nat × Int × Value × Value × Value × Value × Value × Value × Value × Value × Value × Value × Value × Value × Value × Value × Value × Value × Value × Value × Value × Value × Value × Value × Value × Value × Value × Value × Value × Value × Value × Value × Value × Value × Value × Value × Value × Value × Value × Value × Value × Value × Value × Value × Value × Value × Value × Value × Value × Value × Value × Value × Value × Value × Value × Value × Value × Value × Value × Value × Value × Value × Value × Value × Value × Value × Value × Value × Value × Value × Value × Value × Value × Value × Value × Value × Value × Value) => match zz with | ⟨r, z, u2, u3, u7, u42, u43, u44, u45, u46, u47, u48, u49, u50, u51, u52, u53, u54, u55, u56, u57, u58, u59, u60, u61, u62, u63, u64, u65, u66, u67, u68, u69, u70, u71, u72, u73, u74, u75, u76, u77, u78, u79, u80, u81, u82, u83, u84, u85, u86, u87, u88, u89, u90, u91, u92, u93, u94, u95, u96, u97, u98, u99, u100, u101, u102, u103, u104, u105, u106, u107, u108, u109, u110, u111, u112, u113, u114⟩ => ({ tmps := #[.agg #[.slice p G.length c, .slice q H.length d], .pointer (some ⟨g1, 0, none⟩), u2, u3, .int .i64 (i : Int), .int .i64 z, .int .i64 (r : Int), u7, .pointer (some ⟨g1, 0, none⟩), .slice p G.length c, .int .i64 (G.length : Int), .bool false, .bool false, .pointer (some ⟨g1, 0, none⟩), .slice p G.length c, .int .i64 (G.length : Int), .bool false, .bool false, .bool false, .pointer (some ⟨g1, 1, none⟩), .slice q H.length d, .int .i64 (H.length : Int), .bool false, .bool false, .int .i64 (i : Int), .pointer (some ⟨g1, 0, none⟩), .slice p G.length c, .int .i64 (G.length : Int), .bool false, u29, u30, u31, u32, u33, u34, u35, u36, u37, u38, u39, u40, u41, u42, u43, u44, u45, u46, u47, u48, u49, u50, u51, u52, u53, u54, u55, u56, u57, u58, u59, u60, u61, u62, u63, u64, u65, u66, u67, u68, u69, u70, u71, u72, u73, u74, u75, u76, u77, u78, u79, u80, u81, u82, u83, u84, u85, u86, u87, u88, u89, u90, u91, u92, u93, u94, u95, u96, u97, u98, u99, u100, u101, u102, u103, u104, u105, u106, u107, u108, u109, u110, u111, u112, u113, u114], defers := [] } : Act)) (fun (zz : Nat × Int × Value × Value × Value × Value × Value × Value × Value × Value × Value × Value × Value × Value × Value × Value × Value × Value × Value × Value × Value × Value × Value × Value × Value × Value × Value × Value × Value × Value × Value × Value × Value × Value × Value × Value × Value × Value × Value × Value × Value × Value × Value × Value × Value × Value × Value × Value × Value × Value × Value × Value × Value × Value × Value × Value × Value × Value × Value × Value × Value × Value × Value × Value × Value × Value × Value × Value × Value × Value × Value × Value × Value × Value × Value × Value × Value × Value) => match zz with | ⟨r, z, u2, u3, u7, u42, u43, u44, u45, u46, u47, u48, u49, u50, u51, u52, u53, u54, u55, u56, u57, u58, u59, u60, u61, u62, u63, u64, u65, u66, u67, u68, u69, u70, u71, u72, u73, u74, u75, u76, u77, u78, u79, u80, u81, u82, u83, u84, u85, u86, u87, u88, u89, u90, u91, u92, u93, u94, u95, u96, u97, u98, u99, u100, u101, u102, u103, u104, u105, u106, u107, u108, u109, u110, u111, u112, u113, u114⟩ => [⟨g1, #[.slice p G.length c, .slice q H.length d], 50⟩]) (fun (zz : Nat × Int × Value × Value × Value × Value × Value × Value × Value × Value × Value × Value × Value × Value × Value × Value × Value × Value × Value × Value × Value × Value × Value × Value × Value × Value × Value × Value × Value × Value × Value × Value × Value × Value × Value × Value × Value × Value × Value × Value × Value × Value × Value × Value × Value × Value × Value × Value × Value × Value × Value × Value × Value × Value × Value × Value × Value × Value × Value × Value × Value × Value × Value × Value × Value × Value × Value × Value × Value × Value × Value × Value × Value × Value × Value × Value × Value × Value) => match zz with | ⟨r, z, u2, u3, u7, u42, u43, u44, u45, u46, u47, u48, u49, u50, u51, u52, u53, u54, u55, u56, u57, u58, u59, u60, u61, u62, u63, u64, u65, u66, u67, u68, u69, u70, u71, u72, u73, u74, u75, u76, u77, u78, u79, u80, u81, u82, u83, u84, u85, u86, u87, u88, u89, u90, u91, u92, u93, u94, u95, u96, u97, u98, u99, u100, u101, u102, u103, u104, u105, u106, u107, u108, u109, u110, u111, u112, u113, u114⟩ => r ≤ H.length ∧ (∀ j, j < r → GrpMay G H j) ∧ z = lastId H r) (fun (zz : Nat × Int × Value × Value × Value × Value × Value × Value × Value × Value × Value × Value × Value × Value × Value × Value × Value × Value × Value × Value × Value × Value × Value × Value × Value × Value × Value × Value × Value × Value × Value × Value × Value × Value × Value × Value × Value × Value × Value × Value × Value × Value × Value × Value × Value × Value × Value × Value × Value × Value × Value × Value × Value × Value × Value × Value × Value × Value × Value × Value × Value × Value × Value × Value × Value × Value × Value × Value × Value × Value × Value × Value × Value × Value × Value × Value × Value × Value) => match zz with | ⟨r, z, u2, u3, u7, u42, u43, u44, u45, u46, u47, u48, u49, u50, u51, u52, u53, u54, u55, u56, u57, u58, u59, u60, u61, u62, u63, u64, u65, u66, u67, u68, u69, u70, u71, u72, u73, u74, u75, u76, u77, u78, u79, u80, u81, u82, u83, u84, u85, u86, u87, u88, u89, u90, u91, u92, u93, u94, u95, u96, u97, u98, u99, u100, u101, u102, u103, u104, u105, u106, u107, u108, u109, u110, u111, u112, u113, u114⟩ => H.length - r) ⟨0, 0, _, _, _, _, _, _, _, _, _, _, _, _, _, _, _, _, _, _, _, _, _, _, _, _, _, _, _, _, _, _, _, _, _, _, _, _, _, _, _, _, _, _, _, _, _, _, _, _, _, _, _, _, _, _, _, _, _, _, _, _, _, _, _, _, _, _, _, _, _, _, _, _, _, _, _, _⟩ ⟨Nat.zero_le _, fun j hj => absurd hj (Nat.not_lt_zero j), rfl⟩ rfl (List.Sublist.cons_cons _ List.Sublist.slnil) ?_
     rintro ⟨r, z, u2, u3, u7, u42, u43, u44, u45, u46, u47, u48, u49, u50, u51, u52, u53, u54, u55, u56, u57, u58, u59, u60, u61, u62, u63, u64, u65, u66, u67, u68, u69, u70, u71, u72, u73, u74, u75, u76, u77, u78, u79, u80, u81, u82, u83, u84, u85, u86, u87, u88, u89, u90, u91, u92, u93, u94, u95, u96, u97, u98, u99, u100, u101, u102, u103, u104, u105, u106, u107, u108, u109, u110, u111, u112, u113, u114⟩ hφ
     (try dsimp only at hφ ⊢)
     obtain ⟨b1, b2, b3⟩ := hφ
     refine wc_seq ?_
     refine wc_seq ?_
     refine wc_region ?_
     refine wl_val (.int .i64 (r : Int)) rfl (fun _ => rfl) ?_
     simp only [Act.put, Xa, Xz, Xs]
     refine wl_val (.pointer (some ⟨g1, 1, none⟩)) rfl (fun _ => by go_simp) ?_
     simp only [Act.put, Xa, Xz, Xs]
     refine wl_cell 48 (.tmp 43) (.slice q H.length d) (own_row 0 rfl) rfl rfl rfl rfl Try.isAgg48 ?_
     simp only [Act.put, Xa, Xz, Xs]
     refine wl_val (.int .i64 (H.length : Int)) rfl (fun w => er_len rfl rfl Try.underlying48 w) ?_
     simp only [Act.put, Xa, Xz, Xs]
     refine wl_val (.bool (decide ((r : Int) < (H.length : Int)))) rfl (fun w => run_cmp rfl rfl rfl Try.underlying3 rfl w) ?_
     simp only [Act.put, Xa, Xz, Xs]
     refine wl_nil ?_
     refine we_then ?_
     cases h6 : (decide ((r : Int) < (H.length : Int)))
     ·
      skip
      have p6 : ¬ ((r : Int) < (H.length : Int)) := of_decide_eq_false h6
      refine wc_false rfl ?_
      refine wc_exit ?_
      refine we_then_exit ?_
      refine we_then_exit ?_
      refine we_in_here ?_
      refine we_then ?_
      refine wc_seq ?_
      refine wc_region ?_
      refine wl_val (.int .i64 0) rfl (fun _ => rfl) ?_
      simp only [Act.put, Xa, Xz, Xs]
      refine wl_val (.int .i64 0) rfl (fun _ => rfl) ?_
      simp only [Act.put, Xa, Xz, Xs]
      refine wl_nil ?_
      refine we_then ?_
      refine wc_ret ?_
      refine we_ret2 (.int .i64 0) (.int .i64 0) rfl rfl rfl rfl (fun w1 hE => ?_)
      have e0 : chk G H = (0, 0) := chk_eq (.inr (.inr (.inr ⟨⟨by omega, by omega, by omega⟩, a2, fun j hj => b2 j (by omega), rfl⟩)))
      exact ⟨by rw [e0]; rfl, hE.below⟩
     ·
      skip
      have p6 : (r : Int) < (H.length : Int) := of_decide_eq_true h6
      refine wc_true rfl ?_
      refine wc_skip ?_
      refine we_then ?_
      refine wc_seq ?_
      refine wc_block ?_
      refine wc_seq ?_
      refine wc_region ?_
      refine wl_val (.pointer (some ⟨g1, 1, none⟩)) rfl (fun _ => by go_simp) ?_
      simp only [Act.put, Xa, Xz, Xs]
      refine wl_cell 48 (.tmp 49) (.slice q H.length d) (own_row 0 rfl) rfl rfl rfl rfl Try.isAgg48 ?_
      simp only [Act.put, Xa, Xz, Xs]
      refine wl_val (.int .i64 (r : Int)) rfl (fun _ => rfl) ?_
      simp only [Act.put, Xa, Xz, Xs]
      refine wl_read (eaddr q (r * 5)) rfl (er_index r 5 (sl_old hH) rfl rfl rfl rfl (by omega) (flat_length (enc := gp) (size := 5) (fun _ => rfl) _) (by decide) Try.underlying48 (by kernel_rfl)) ?_
      simp only [Act.put, Xa, Xz, Xs]
      refine wl_read (.agg #[.int .i64 ((H[r]!).id), .int .i64 ((H[r]!).seg), .int .i64 ((H[r]!).off), .int .i64 ((H[r]!).acc), .int .i64 ((H[r]!).slack)]) rfl (er_part (r * 5) [.int .i64 ((H[r]!).id), .int .i64 ((H[r]!).seg), .int .i64 ((H[r]!).off), .int .i64 ((H[r]!).acc), .int .i64 ((H[r]!).slack)] (sl_old hH) rfl rfl (flat_part (enc := gp) (fun _ => rfl) H r (by omega)) (Nat.zero_lt_succ _) Try.underlying84 rfl (by kernel_rfl)) ?_
      simp only [Act.put, Xa, Xz, Xs]
      refine wl_new 84 (#[.int .i64 0, .int .i64 0, .int .i64 0, .int .i64 0, .int .i64 0]) rfl (fun _ => by go_simp) ?_
      intro g7
      simp only [Act.put, Xa, Xz, Xs]
      refine wl_store 0 84 (.tmp 7) (.tmp 53) (#[.int .i64 ((H[r]!).id), .int .i64 ((H[r]!).seg), .int .i64 ((H[r]!).off), .int .i64 ((H[r]!).acc), .int .i64 ((H[r]!).slack)]) rfl rfl rfl rfl rfl (by kernel_rfl) rfl (by simp [Value.oneCell']) ?_
      simp only [Act.put, List.set_cons_zero]
      refine wl_nil ?_
      refine we_then ?_
      refine wc_seq ?_
      refine wc_seq ?_
      refine wc_region ?_
      refine wl_val (.pointer (some ⟨g7, 0, none⟩)) rfl (fun _ => by go_simp) ?_
      simp only [Act.put, Xa, Xz, Xs]
      refine wl_cell 3 (.tmp 54) (.int .i64 ((H[r]!).id)) (own_row 0 rfl) rfl rfl rfl rfl Try.isAgg3 ?_
      simp only [Act.put, Xa, Xz, Xs]
      refine wl_val (.int .i64 z) rfl (fun _ => rfl) ?_
      simp only [Act.put, Xa, Xz, Xs]
      refine wl_val (.bool (decide ((H[r]!).id ≤ z))) rfl (fun w => run_cmp rfl rfl rfl Try.underlying3 rfl w) ?_
      simp only [Act.put, Xa, Xz, Xs]
      refine wl_val (.bool (decide ((H[r]!).id ≤ z))) rfl (fun _ => rfl) ?_
      simp only [Act.put, Xa, Xz, Xs]
      cases h8 : (decide ((H[r]!).id ≤ z))
      ·
       skip
       have p8 : ¬ ((H[r]!).id ≤ z) := of_decide_eq_false h8
       refine wl_val (.pointer (some ⟨g7, 0, none⟩)) rfl (fun _ => by go_simp) ?_
       simp only [Act.put, Xa, Xz, Xs]
       refine wl_cell 3 (.tmp 59) (.int .i64 ((H[r]!).id)) (own_row 0 rfl) rfl rfl rfl rfl Try.isAgg3 ?_
       simp only [Act.put, Xa, Xz, Xs]
       refine wl_val (.bool (decide (65535 < (H[r]!).id))) rfl (fun w => run_cmp rfl rfl rfl Try.underlying3 rfl w) ?_
       simp only [Act.put, Xa, Xz, Xs]
       refine wl_val (.bool (decide (65535 < (H[r]!).id))) rfl (fun _ => rfl) ?_
       simp only [Act.put, Xa, Xz, Xs]
       refine wl_val (.bool (decide (65535 < (H[r]!).id))) rfl (fun _ => rfl) ?_
       simp only [Act.put, Xa, Xz, Xs]
       cases h9 : (decide (65535 < (H[r]!).id))
       ·
        skip
        have p9 : ¬ (65535 < (H[r]!).id) := of_decide_eq_false h9
        refine wl_val (.pointer (some ⟨g7, 1, none⟩)) rfl (fun _ => by go_simp) ?_
        simp only [Act.put, Xa, Xz, Xs]
        refine wl_cell 3 (.tmp 64) (.int .i64 ((H[r]!).seg)) (own_row 0 rfl) rfl rfl rfl rfl Try.isAgg3 ?_
        simp only [Act.put, Xa, Xz, Xs]
        refine wl_val (.bool (decide ((H[r]!).seg < 0))) rfl (fun w => run_cmp rfl rfl rfl Try.underlying3 rfl w) ?_
        simp only [Act.put, Xa, Xz, Xs]
        refine wl_val (.bool (decide ((H[r]!).seg < 0))) rfl (fun _ => rfl) ?_
        simp only [Act.put, Xa, Xz, Xs]
        refine wl_val (.bool (decide ((H[r]!).seg < 0))) rfl (fun _ => rfl) ?_
        simp only [Act.put, Xa, Xz, Xs]
        cases h10 : (decide ((H[r]!).seg < 0))
        ·
         skip
         have p10 : ¬ ((H[r]!).seg < 0) := of_decide_eq_false h10
         refine wl_val (.pointer (some ⟨g7, 1, none⟩)) rfl (fun _ => by go_simp) ?_
         simp only [Act.put, Xa, Xz, Xs]
         refine wl_cell 3 (.tmp 69) (.int .i64 ((H[r]!).seg)) (own_row 0 rfl) rfl rfl rfl rfl Try.isAgg3 ?_
         simp only [Act.put, Xa, Xz, Xs]
         refine wl_val (.pointer (some ⟨g1, 0, none⟩)) rfl (fun _ => by go_simp) ?_
         simp only [Act.put, Xa, Xz, Xs]
         refine wl_cell 47 (.tmp 71) (.slice p G.length c) (own_row 1 rfl) rfl rfl rfl rfl Try.isAgg47 ?_
         simp only [Act.put, Xa, Xz, Xs]
         refine wl_val (.int .i64 (G.length : Int)) rfl (fun w => er_len rfl rfl Try.underlying47 w) ?_
         simp only [Act.put, Xa, Xz, Xs]
         refine wl_val (.bool (decide ((G.length : Int) ≤ (H[r]!).seg))) rfl (fun w => run_cmp rfl rfl rfl Try.underlying3 rfl w) ?_
         simp only [Act.put, Xa, Xz, Xs]
         refine wl_val (.bool (decide ((G.length : Int) ≤ (H[r]!).seg))) rfl (fun _ => rfl) ?_
         simp only [Act.put, Xa, Xz, Xs]
         refine wl_nil ?_
         refine we_then ?_
         cases h11 : (decide ((G.length : Int) ≤ (H[r]!).seg))
         ·
          skip
          have p11 : ¬ ((G.length : Int) ≤ (H[r]!).seg) := of_decide_eq_false h11
          refine wc_false rfl ?_
          refine wc_skip ?_
          refine we_then ?_
          refine wc_seq ?_
          refine wc_seq ?_
          refine wc_draw [.late, .plain, .late, .late, .late, .plain, .late, .plain, .late, .plain, .plain, .plain, .plain, .late, .late, .late, .late, .plain, .late, .late, .late, .late, .plain, .late, .late, .late, .late, .plain, .late, .late, .late, .late, .plain, .late, .late] none [] 115 (by kernel_rfl) rfl (by kernel_rfl) (by kernel_rfl) ?_
          refine ws_late (.pointer (some ⟨g7, 2, none⟩)) rfl rfl (fun _ => by go_simp) ?_
          simp only [Nat.reduceAdd, Act.put, Xa, Xz, Xs]
          refine ws_cell 2 (.tmp 77) (.int .i64 ((H[r]!).off)) (own_row 0 rfl) rfl rfl rfl rfl rfl Try.isAgg2 ?_
          simp only [Nat.reduceAdd, Act.put, Xa, Xz, Xs]
          refine ws_late (.bool (decide ((H[r]!).off < 0))) rfl rfl (fun w => run_cmp rfl rfl rfl Try.underlying2 rfl w) ?_
          simp only [Nat.reduceAdd, Act.put, Xa, Xz, Xs]
          refine ws_late (.bool (decide ((H[r]!).off < 0))) rfl rfl (fun _ => rfl) ?_
          simp only [Nat.reduceAdd, Act.put, Xa, Xz, Xs]
          cases h12 : (decide ((H[r]!).off < 0))
          ·
           skip
           have p12 : ¬ ((H[r]!).off < 0) := of_decide_eq_false h12
           refine ws_late (.pointer (some ⟨g7, 2, none⟩)) rfl rfl (fun _ => by go_simp) ?_
           simp only [Nat.reduceAdd, Act.put, Xa, Xz, Xs]
           refine ws_cell 2 (.tmp 81) (.int .i64 ((H[r]!).off)) (own_row 0 rfl) rfl rfl rfl rfl rfl Try.isAgg2 ?_
           simp only [Nat.reduceAdd, Act.put, Xa, Xz, Xs]
           refine ws_late (.pointer (some ⟨g1, 0, none⟩)) rfl rfl (fun _ => by go_simp) ?_
           simp only [Nat.reduceAdd, Act.put, Xa, Xz, Xs]
           refine ws_cell 47 (.tmp 83) (.slice p G.length c) (own_row 1 rfl) rfl rfl rfl rfl rfl Try.isAgg47 ?_
           simp only [Nat.reduceAdd, Act.put, Xa, Xz, Xs]
           refine ws_late (.pointer (some ⟨g7, 1, none⟩)) rfl rfl (fun _ => by go_simp) ?_
           simp only [Nat.reduceAdd, Act.put, Xa, Xz, Xs]
           refine ws_cell 3 (.tmp 85) (.int .i64 ((H[r]!).seg)) (own_row 0 rfl) rfl rfl rfl rfl rfl Try.isAgg3 ?_
           simp only [Nat.reduceAdd, Act.put, Xa, Xz, Xs]
           refine ws_read (eaddr p (((H[r]!).seg.toNat) * 3)) rfl rfl (er_index ((H[r]!).seg.toNat) 3 (sl_old hS) rfl rfl rfl (by omega) (by omega) (flat_length (enc := sg) (size := 3) (fun _ => rfl) _) (by decide) Try.underlying47 (by kernel_rfl)) ?_
           simp only [Nat.reduceAdd, Act.put, Xa, Xz, Xs]
           refine ws_read (eaddr p (((H[r]!).seg.toNat) * 3 + 0)) rfl rfl (er_field (z := 0) (((H[r]!).seg.toNat) * 3) 0 0 (sl_old hS) rfl rfl (flat_lt (enc := sg) (fun _ => rfl) G ((H[r]!).seg.toNat) 0 (by omega) (by decide)) Try.underlying88 rfl rfl (by kernel_rfl)) ?_
           simp only [Nat.reduceAdd, Act.put, Xa, Xz, Xs]
           refine ws_read (.int .i64 ((G[(H[r]!).seg.toNat]!).len)) rfl rfl (er_cell (((H[r]!).seg.toNat) * 3 + 0) (.int .i64 ((G[(H[r]!).seg.toNat]!).len)) (sl_old hS) rfl rfl (flat_cell (enc := sg) (fun _ => rfl) G ((H[r]!).seg.toNat) 0 (by omega) (by decide)) Try.isAgg2) ?_
           simp only [Nat.reduceAdd, Act.put, Xa, Xz, Xs]
           refine ws_late (.bool (decide ((G[(H[r]!).seg.toNat]!).len < (H[r]!).off))) rfl rfl (fun w => run_cmp rfl rfl rfl Try.underlying2 rfl w) ?_
           simp only [Nat.reduceAdd, Act.put, Xa, Xz, Xs]
           refine ws_late (.bool (decide ((G[(H[r]!).seg.toNat]!).len < (H[r]!).off))) rfl rfl (fun _ => rfl) ?_
           simp only [Nat.reduceAdd, Act.put, Xa, Xz, Xs]
           refine ws_late (.bool (decide ((G[(H[r]!).seg.toNat]!).len < (H[r]!).off))) rfl rfl (fun _ => rfl) ?_
           simp only [Nat.reduceAdd, Act.put, Xa, Xz, Xs]
           cases h13 : (decide ((G[(H[r]!).seg.toNat]!).len < (H[r]!).off))
           ·
            skip
            have p13 : ¬ ((G[(H[r]!).seg.toNat]!).len < (H[r]!).off) := of_decide_eq_false h13
            refine ws_late (.pointer (some ⟨g7, 3, none⟩)) rfl rfl (fun _ => by go_simp) ?_
            simp only [Nat.reduceAdd, Act.put, Xa, Xz, Xs]
            refine ws_cell 2 (.tmp 93) (.int .i64 ((H[r]!).acc)) (own_row 0 rfl) rfl rfl rfl rfl rfl Try.isAgg2 ?_
            simp only [Nat.reduceAdd, Act.put, Xa, Xz, Xs]
            refine ws_late (.bool (decide ((H[r]!).acc < 0))) rfl rfl (fun w => run_cmp rfl rfl rfl Try.underlying2 rfl w) ?_
            simp only [Nat.reduceAdd, Act.put, Xa, Xz, Xs]
            refine ws_late (.bool (decide ((H[r]!).acc < 0))) rfl rfl (fun _ => rfl) ?_
            simp only [Nat.reduceAdd, Act.put, Xa, Xz, Xs]
            refine ws_late (.bool (decide ((H[r]!).acc < 0))) rfl rfl (fun _ => rfl) ?_
            simp only [Nat.reduceAdd, Act.put, Xa, Xz, Xs]
            cases h14 : (decide ((H[r]!).acc < 0))
            ·
             skip
             have p14 : ¬ ((H[r]!).acc < 0) := of_decide_eq_false h14
             refine ws_late (.pointer (some ⟨g7, 3, none⟩)) rfl rfl (fun _ => by go_simp) ?_
             simp only [Nat.reduceAdd, Act.put, Xa, Xz, Xs]
             refine ws_cell 2 (.tmp 98) (.int .i64 ((H[r]!).acc)) (own_row 0 rfl) rfl rfl rfl rfl rfl Try.isAgg2 ?_
             simp only [Nat.reduceAdd, Act.put, Xa, Xz, Xs]
             refine ws_late (.bool (decide (1048576 < (H[r]!).acc))) rfl rfl (fun w => run_cmp rfl rfl rfl Try.underlying2 rfl w) ?_
             simp only [Nat.reduceAdd, Act.put, Xa, Xz, Xs]
             refine ws_late (.bool (decide (1048576 < (H[r]!).acc))) rfl rfl (fun _ => rfl) ?_
             simp only [Nat.reduceAdd, Act.put, Xa, Xz, Xs]
             refine ws_late (.bool (decide (1048576 < (H[r]!).acc))) rfl rfl (fun _ => rfl) ?_
             simp only [Nat.reduceAdd, Act.put, Xa, Xz, Xs]
             cases h15 : (decide (1048576 < (H[r]!).acc))
             ·
              skip
              have p15 : ¬ (1048576 < (H[r]!).acc) := of_decide_eq_false h15
              refine ws_late (.pointer (some ⟨g7, 4, none⟩)) rfl rfl (fun _ => by go_simp) ?_
              simp only [Nat.reduceAdd, Act.put, Xa, Xz, Xs]
              refine ws_cell 2 (.tmp 103) (.int .i64 ((H[r]!).slack)) (own_row 0 rfl) rfl rfl rfl rfl rfl Try.isAgg2 ?_
              simp only [Nat.reduceAdd, Act.put, Xa, Xz, Xs]
              refine ws_late (.bool (decide ((H[r]!).slack < 0))) rfl rfl (fun w => run_cmp rfl rfl rfl Try.underlying2 rfl w) ?_
              simp only [Nat.reduceAdd, Act.put, Xa, Xz, Xs]
              refine ws_late (.bool (decide ((H[r]!).slack < 0))) rfl rfl (fun _ => rfl) ?_
              simp only [Nat.reduceAdd, Act.put, Xa, Xz, Xs]
              refine ws_late (.bool (decide ((H[r]!).slack < 0))) rfl rfl (fun _ => rfl) ?_
              simp only [Nat.reduceAdd, Act.put, Xa, Xz, Xs]
              cases h16 : (decide ((H[r]!).slack < 0))
              ·
               skip
               have p16 : ¬ ((H[r]!).slack < 0) := of_decide_eq_false h16
               refine ws_late (.pointer (some ⟨g7, 4, none⟩)) rfl rfl (fun _ => by go_simp) ?_
               simp only [Nat.reduceAdd, Act.put, Xa, Xz, Xs]
               refine ws_cell 2 (.tmp 108) (.int .i64 ((H[r]!).slack)) (own_row 0 rfl) rfl rfl rfl rfl rfl Try.isAgg2 ?_
               simp only [Nat.reduceAdd, Act.put, Xa, Xz, Xs]
               refine ws_late (.bool (decide (16777216 < (H[r]!).slack))) rfl rfl (fun w => run_cmp rfl rfl rfl Try.underlying2 rfl w) ?_
               simp only [Nat.reduceAdd, Act.put, Xa, Xz, Xs]
               refine ws_late (.bool (decide (16777216 < (H[r]!).slack))) rfl rfl (fun _ => rfl) ?_
               simp only [Nat.reduceAdd, Act.put, Xa, Xz, Xs]
               refine ws_nil [] trivial (by simp) ?_
               intro ps17
               simp only [fin, List.foldl_nil, List.map, List.nil_append]
               refine we_then ?_
               cases h18 : (decide (16777216 < (H[r]!).slack))
               ·
                skip
                have p18 : ¬ (16777216 < (H[r]!).slack) := of_decide_eq_false h18
                refine wc_false rfl ?_
                refine wc_skip ?_
                refine we_then ?_
                refine wc_region ?_
                refine wl_val (.pointer (some ⟨g7, 0, none⟩)) rfl (fun _ => by go_simp) ?_
                simp only [Act.put, Xa, Xz, Xs]
                refine wl_cell 3 (.tmp 113) (.int .i64 ((H[r]!).id)) (own_row 0 rfl) rfl rfl rfl rfl Try.isAgg3 ?_
                simp only [Act.put, Xa, Xz, Xs]
                refine wl_val (.int .i64 ((H[r]!).id)) rfl (fun _ => rfl) ?_
                simp only [Act.put, Xa, Xz, Xs]
                refine wl_nil ?_
                refine we_in ?_
                refine we_then ?_
                refine wc_region ?_
                refine wl_val (.int .i64 (r : Int)) rfl (fun _ => rfl) ?_
                simp only [Act.put, Xa, Xz, Xs]
                refine wl_val (.int .i64 ((r + 1 : Nat) : Int)) rfl (fun w => run_nat (X := r) (Y := 1) (Z := r + 1) rfl rfl rfl rfl (by omega) w) ?_
                simp only [Act.put, Xa, Xz, Xs]
                refine wl_val (.int .i64 ((r + 1 : Nat) : Int)) rfl (fun _ => rfl) ?_
                simp only [Act.put, Xa, Xz, Xs]
                refine wl_nil ?_
                exact we_meet ⟨(r + 1), (H[r]!).id, _, _, _, _, _, _, _, _, _, _, _, _, _, _, _, _, _, _, _, _, _, _, _, _, _, _, _, _, _, _, _, _, _, _, _, _, _, _, _, _, _, _, _, _, _, _, _, _, _, _, _, _, _, _, _, _, _, _, _, _, _, _, _, _, _, _, _, _, _, _, _, _, _, _, _, _⟩ ⟨⟨by (try dsimp only); omega, fun j hj => by rcases Nat.lt_or_eq_of_le (Nat.le_of_lt_succ hj) with h | h; exact b2 j h; subst h; exact ⟨by omega, by omega, by omega, by omega, by omega, by omega, by omega, by omega, by omega, by omega⟩, rfl⟩, by (try dsimp only); omega⟩ rfl (List.Sublist.cons _ (List.Sublist.cons_cons _ List.Sublist.slnil))
               ·
                skip
                have p18 : 16777216 < (H[r]!).slack := of_decide_eq_true h18
                refine wc_true rfl ?_
                refine wc_seq ?_
                refine wc_region ?_
                refine wl_val (.int .i64 (r : Int)) rfl (fun _ => rfl) ?_
                simp only [Act.put, Xa, Xz, Xs]
                refine wl_val (.int .i64 16) rfl (fun _ => rfl) ?_
                simp only [Act.put, Xa, Xz, Xs]
                refine wl_val (.int .i64 (r : Int)) rfl (fun _ => rfl) ?_
                simp only [Act.put, Xa, Xz, Xs]
                refine wl_nil ?_
                refine we_then ?_
                refine wc_ret ?_
                refine we_then_ret ?_
                refine we_in_ret ?_
                refine we_then_ret ?_
                refine we_then_ret ?_
                refine we_in_ret ?_
                refine we_then_ret ?_
                refine we_ret2 (.int .i64 16) (.int .i64 (r : Int)) rfl rfl rfl rfl (fun w1 hE => ?_)
                have e0 : chk G H = (16, r) := chk_eq (.inr (.inr (.inl ⟨⟨by omega, by omega, by omega⟩, a2, rfl, (show r < H.length by omega), (fun (k : GrpMay G H r) => by have k1 := k.up; have k2 := k.high; have k3 := k.seg0; have k4 := k.segn; have k5 := k.off0; have k6 := k.offn; have k7 := k.acc0; have k8 := k.accn; have k9 := k.sl0; have k10 := k.sln; (try rw [← b3] at k1); omega), b2⟩)))
                exact ⟨by rw [e0]; rfl, hE.below⟩
              ·
               skip
               have p16 : (H[r]!).slack < 0 := of_decide_eq_true h16
               refine ws_skip_late rfl rfl ?_
               simp only [Nat.reduceAdd, Act.put, Xa, Xz, Xs]
               refine ws_skip rfl rfl ?_
               simp only [Nat.reduceAdd, Act.put, Xa, Xz, Xs]
               refine ws_skip_late rfl rfl ?_
               simp only [Nat.reduceAdd, Act.put, Xa, Xz, Xs]
               refine ws_late (.bool true) rfl rfl (fun _ => rfl) ?_
               simp only [Nat.reduceAdd, Act.put, Xa, Xz, Xs]
               refine ws_nil [] trivial (by simp) ?_
               intro ps19
               simp only [fin, List.foldl_nil, List.map, List.nil_append]
               refine we_then ?_
               refine wc_true rfl ?_
               refine wc_seq ?_
               refine wc_region ?_
               refine wl_val (.int .i64 (r : Int)) rfl (fun _ => rfl) ?_
               simp only [Act.put, Xa, Xz, Xs]
               refine wl_val (.int .i64 16) rfl (fun _ => rfl) ?_
               simp only [Act.put, Xa, Xz, Xs]
               refine wl_val (.int .i64 (r : Int)) rfl (fun _ => rfl) ?_
               simp only [Act.put, Xa, Xz, Xs]
               refine wl_nil ?_
               refine we_then ?_
               refine wc_ret ?_
               refine we_then_ret ?_
               refine we_in_ret ?_
               refine we_then_ret ?_
               refine we_then_ret ?_
               refine we_in_ret ?_
               refine we_then_ret ?_
               refine we_ret2 (.int .i64 16) (.int .i64 (r : Int)) rfl rfl rfl rfl (fun w1 hE => ?_)
               have e0 : chk G H = (16, r) := chk_eq (.inr (.inr (.inl ⟨⟨by omega, by omega, by omega⟩, a2, rfl, (show r < H.length by omega), (fun (k : GrpMay G H r) => by have k1 := k.up; have k2 := k.high; have k3 := k.seg0; have k4 := k.segn; have k5 := k.off0; have k6 := k.offn; have k7 := k.acc0; have k8 := k.accn; have k9 := k.sl0; have k10 := k.sln; (try rw [← b3] at k1); omega), b2⟩)))
               exact ⟨by rw [e0]; rfl, hE.below⟩
             ·
              skip
              have p15 : 1048576 < (H[r]!).acc := of_decide_eq_true h15
              refine ws_skip_late rfl rfl ?_
              simp only [Nat.reduceAdd, Act.put, Xa, Xz, Xs]
              refine ws_skip rfl rfl ?_
              simp only [Nat.reduceAdd, Act.put, Xa, Xz, Xs]
              refine ws_skip_late rfl rfl ?_
              simp only [Nat.reduceAdd, Act.put, Xa, Xz, Xs]
              refine ws_late (.bool true) rfl rfl (fun _ => rfl) ?_
              simp only [Nat.reduceAdd, Act.put, Xa, Xz, Xs]
              refine ws_late (.bool true) rfl rfl (fun _ => rfl) ?_
              simp only [Nat.reduceAdd, Act.put, Xa, Xz, Xs]
              refine ws_skip_late rfl rfl ?_
              simp only [Nat.reduceAdd, Act.put, Xa, Xz, Xs]
              refine ws_skip rfl rfl ?_
              simp only [Nat.reduceAdd, Act.put, Xa, Xz, Xs]
              refine ws_skip_late rfl rfl ?_
              simp only [Nat.reduceAdd, Act.put, Xa, Xz, Xs]
              refine ws_late (.bool true) rfl rfl (fun _ => rfl) ?_
              simp only [Nat.reduceAdd, Act.put, Xa, Xz, Xs]
              refine ws_nil [] trivial (by simp) ?_
              intro ps20
              simp only [fin, List.foldl_nil, List.map, List.nil_append]
              refine we_then ?_
              refine wc_true rfl ?_
              refine wc_seq ?_
              refine wc_region ?_
              refine wl_val (.int .i64 (r : Int)) rfl (fun _ => rfl) ?_
              simp only [Act.put, Xa, Xz, Xs]
              refine wl_val (.int .i64 16) rfl (fun _ => rfl) ?_
              simp only [Act.put, Xa, Xz, Xs]
              refine wl_val (.int .i64 (r : Int)) rfl (fun _ => rfl) ?_
              simp only [Act.put, Xa, Xz, Xs]
              refine wl_nil ?_
              refine we_then ?_
              refine wc_ret ?_
              refine we_then_ret ?_
              refine we_in_ret ?_
              refine we_then_ret ?_
              refine we_then_ret ?_
              refine we_in_ret ?_
              refine we_then_ret ?_
              refine we_ret2 (.int .i64 16) (.int .i64 (r : Int)) rfl rfl rfl rfl (fun w1 hE => ?_)
              have e0 : chk G H = (16, r) := chk_eq (.inr (.inr (.inl ⟨⟨by omega, by omega, by omega⟩, a2, rfl, (show r < H.length by omega), (fun (k : GrpMay G H r) => by have k1 := k.up; have k2 := k.high; have k3 := k.seg0; have k4 := k.segn; have k5 := k.off0; have k6 := k.offn; have k7 := k.acc0; have k8 := k.accn; have k9 := k.sl0; have k10 := k.sln; (try rw [← b3] at k1); omega), b2⟩)))
              exact ⟨by rw [e0]; rfl, hE.below⟩
            ·
             skip
             have p14 : (H[r]!).acc < 0 := of_decide_eq_true h14
             refine ws_skip_late rfl rfl ?_
             simp only [Nat.reduceAdd, Act.put, Xa, Xz, Xs]
             refine ws_skip rfl rfl ?_
             simp only [Nat.reduceAdd, Act.put, Xa, Xz, Xs]
             refine ws_skip_late rfl rfl ?_
             simp only [Nat.reduceAdd, Act.put, Xa, Xz, Xs]
             refine ws_late (.bool true) rfl rfl (fun _ => rfl) ?_
             simp only [Nat.reduceAdd, Act.put, Xa, Xz, Xs]
             refine ws_late (.bool true) rfl rfl (fun _ => rfl) ?_
             simp only [Nat.reduceAdd, Act.put, Xa, Xz, Xs]
             refine ws_skip_late rfl rfl ?_
             simp only [Nat.reduceAdd, Act.put, Xa, Xz, Xs]
             refine ws_skip rfl rfl ?_
             simp only [Nat.reduceAdd, Act.put, Xa, Xz, Xs]
             refine ws_skip_late rfl rfl ?_
             simp only [Nat.reduceAdd, Act.put, Xa, Xz, Xs]
             refine ws_late (.bool true) rfl rfl (fun _ => rfl) ?_
             simp only [Nat.reduceAdd, Act.put, Xa, Xz, Xs]
             refine ws_late (.bool true) rfl rfl (fun _ => rfl) ?_
             simp only [Nat.reduceAdd, Act.put, Xa, Xz, Xs]
             refine ws_skip_late rfl rfl ?_
             simp only [Nat.reduceAdd, Act.put, Xa, Xz, Xs]
             refine ws_skip rfl rfl ?_
             simp only [Nat.reduceAdd, Act.put, Xa, Xz, Xs]
             refine ws_skip_late rfl rfl ?_
             simp only [Nat.reduceAdd, Act.put, Xa, Xz, Xs]
             refine ws_late (.bool true) rfl rfl (fun _ => rfl) ?_
             simp only [Nat.reduceAdd, Act.put, Xa, Xz, Xs]
             refine ws_nil [] trivial (by simp) ?_
             intro ps21
             simp only [fin, List.foldl_nil, List.map, List.nil_append]
             refine we_then ?_
             refine wc_true rfl ?_
             refine wc_seq ?_
             refine wc_region ?_
             refine wl_val (.int .i64 (r : Int)) rfl (fun _ => rfl) ?_
             simp only [Act.put, Xa, Xz, Xs]
             refine wl_val (.int .i64 16) rfl (fun _ => rfl) ?_
             simp only [Act.put, Xa, Xz, Xs]
             refine wl_val (.int .i64 (r : Int)) rfl (fun _ => rfl) ?_
             simp only [Act.put, Xa, Xz, Xs]
             refine wl_nil ?_
             refine we_then ?_
             refine wc_ret ?_
             refine we_then_ret ?_
             refine we_in_ret ?_
             refine we_then_ret ?_
             refine we_then_ret ?_
             refine we_in_ret ?_
             refine we_then_ret ?_
             refine we_ret2 (.int .i64 16) (.int .i64 (r : Int)) rfl rfl rfl rfl (fun w1 hE => ?_)
             have e0 : chk G H = (16, r) := chk_eq (.inr (.inr (.inl ⟨⟨by omega, by omega, by omega⟩, a2, rfl, (show r < H.length by omega), (fun (k : GrpMay G H r) => by have k1 := k.up; have k2 := k.high; have k3 := k.seg0; have k4 := k.segn; have k5 := k.off0; have k6 := k.offn; have k7 := k.acc0; have k8 := k.accn; have k9 := k.sl0; have k10 := k.sln; (try rw [← b3] at k1); omega), b2⟩)))
             exact ⟨by rw [e0]; rfl, hE.below⟩
           ·
            skip
            have p13 : (G[(H[r]!).seg.toNat]!).len < (H[r]!).off := of_decide_eq_true h13
            refine ws_skip_late rfl rfl ?_
            simp only [Nat.reduceAdd, Act.put, Xa, Xz, Xs]
            refine ws_skip rfl rfl ?_
            simp only [Nat.reduceAdd, Act.put, Xa, Xz, Xs]
            refine ws_skip_late rfl rfl ?_
            simp only [Nat.reduceAdd, Act.put, Xa, Xz, Xs]
            refine ws_late (.bool true) rfl rfl (fun _ => rfl) ?_
            simp only [Nat.reduceAdd, Act.put, Xa, Xz, Xs]
            refine ws_late (.bool true) rfl rfl (fun _ => rfl) ?_
            simp only [Nat.reduceAdd, Act.put, Xa, Xz, Xs]
            refine ws_skip_late rfl rfl ?_
            simp only [Nat.reduceAdd, Act.put, Xa, Xz, Xs]
            refine ws_skip rfl rfl ?_
            simp only [Nat.reduceAdd, Act.put, Xa, Xz, Xs]
            refine ws_skip_late rfl rfl ?_
            simp only [Nat.reduceAdd, Act.put, Xa, Xz, Xs]
            refine ws_late (.bool true) rfl rfl (fun _ => rfl) ?_
            simp only [Nat.reduceAdd, Act.put, Xa, Xz, Xs]
            refine ws_late (.bool true) rfl rfl (fun _ => rfl) ?_
            simp only [Nat.reduceAdd, Act.put, Xa, Xz, Xs]
            refine ws_skip_late rfl rfl ?_
            simp only [Nat.reduceAdd, Act.put, Xa, Xz, Xs]
            refine ws_skip rfl rfl ?_
            simp only [Nat.reduceAdd, Act.put, Xa, Xz, Xs]
            refine ws_skip_late rfl rfl ?_
            simp only [Nat.reduceAdd, Act.put, Xa, Xz, Xs]
            refine ws_late (.bool true) rfl rfl (fun _ => rfl) ?_
            simp only [Nat.reduceAdd, Act.put, Xa, Xz, Xs]
            refine ws_late (.bool true) rfl rfl (fun _ => rfl) ?_
            simp only [Nat.reduceAdd, Act.put, Xa, Xz, Xs]
            refine ws_skip_late rfl rfl ?_
            simp only [Nat.reduceAdd, Act.put, Xa, Xz, Xs]
            refine ws_skip rfl rfl ?_
            simp only [Nat.reduceAdd, Act.put, Xa, Xz, Xs]
            refine ws_skip_late rfl rfl ?_
            simp only [Nat.reduceAdd, Act.put, Xa, Xz, Xs]
            refine ws_late (.bool true) rfl rfl (fun _ => rfl) ?_
            simp only [Nat.reduceAdd, Act.put, Xa, Xz, Xs]
            refine ws_nil [] trivial (by simp) ?_
            intro ps22
            simp only [fin, List.foldl_nil, List.map, List.nil_append]
            refine we_then ?_
            refine wc_true rfl ?_
            refine wc_seq ?_
            refine wc_region ?_
            refine wl_val (.int .i64 (r : Int)) rfl (fun _ => rfl) ?_
            simp only [Act.put, Xa, Xz, Xs]
            refine wl_val (.int .i64 16) rfl (fun _ => rfl) ?_
            simp only [Act.put, Xa, Xz, Xs]
            refine wl_val (.int .i64 (r : Int)) rfl (fun _ => rfl) ?_
            simp only [Act.put, Xa, Xz, Xs]
            refine wl_nil ?_
            refine we_then ?_
            refine wc_ret ?_
            refine we_then_ret ?_
            refine we_in_ret ?_
            refine we_then_ret ?_
            refine we_then_ret ?_
            refine we_in_ret ?_
            refine we_then_ret ?_
            refine we_ret2 (.int .i64 16) (.int .i64 (r : Int)) rfl rfl rfl rfl (fun w1 hE => ?_)
            have e0 : chk G H = (16, r) := chk_eq (.inr (.inr (.inl ⟨⟨by omega, by omega, by omega⟩, a2, rfl, (show r < H.length by omega), (fun (k : GrpMay G H r) => by have k1 := k.up; have k2 := k.high; have k3 := k.seg0; have k4 := k.segn; have k5 := k.off0; have k6 := k.offn; have k7 := k.acc0; have k8 := k.accn; have k9 := k.sl0; have k10 := k.sln; (try rw [← b3] at k1); omega), b2⟩)))
            exact ⟨by rw [e0]; rfl, hE.below⟩
          ·
           skip
           have p12 : (H[r]!).off < 0 := of_decide_eq_true h12
           refine ws_skip_late rfl rfl ?_
           simp only [Nat.reduceAdd, Act.put, Xa, Xz, Xs]
           refine ws_skip rfl rfl ?_
           simp only [Nat.reduceAdd, Act.put, Xa, Xz, Xs]
           refine ws_skip_late rfl rfl ?_
           simp only [Nat.reduceAdd, Act.put, Xa, Xz, Xs]
           refine ws_skip rfl rfl ?_
           simp only [Nat.reduceAdd, Act.put, Xa, Xz, Xs]
           refine ws_skip_late rfl rfl ?_
           simp only [Nat.reduceAdd, Act.put, Xa, Xz, Xs]
           refine ws_skip rfl rfl ?_
           simp only [Nat.reduceAdd, Act.put, Xa, Xz, Xs]
           refine ws_skip rfl rfl ?_
           simp only [Nat.reduceAdd, Act.put, Xa, Xz, Xs]
           refine ws_skip rfl rfl ?_
           simp only [Nat.reduceAdd, Act.put, Xa, Xz, Xs]
           refine ws_skip rfl rfl ?_
           simp only [Nat.reduceAdd, Act.put, Xa, Xz, Xs]
           refine ws_skip_late rfl rfl ?_
           simp only [Nat.reduceAdd, Act.put, Xa, Xz, Xs]
           refine ws_late (.bool true) rfl rfl (fun _ => rfl) ?_
           simp only [Nat.reduceAdd, Act.put, Xa, Xz, Xs]
           refine ws_late (.bool true) rfl rfl (fun _ => rfl) ?_
           simp only [Nat.reduceAdd, Act.put, Xa, Xz, Xs]
           refine ws_skip_late rfl rfl ?_
           simp only [Nat.reduceAdd, Act.put, Xa, Xz, Xs]
           refine ws_skip rfl rfl ?_
           simp only [Nat.reduceAdd, Act.put, Xa, Xz, Xs]
           refine ws_skip_late rfl rfl ?_
           simp only [Nat.reduceAdd, Act.put, Xa, Xz, Xs]
           refine ws_late (.bool true) rfl rfl (fun _ => rfl) ?_
           simp only [Nat.reduceAdd, Act.put, Xa, Xz, Xs]
           refine ws_late (.bool true) rfl rfl (fun _ => rfl) ?_
           simp only [Nat.reduceAdd, Act.put, Xa, Xz, Xs]
           refine ws_skip_late rfl rfl ?_
           simp only [Nat.reduceAdd, Act.put, Xa, Xz, Xs]
           refine ws_skip rfl rfl ?_
           simp only [Nat.reduceAdd, Act.put, Xa, Xz, Xs]
           refine ws_skip_late rfl rfl ?_
           simp only [Nat.reduceAdd, Act.put, Xa, Xz, Xs]
           refine ws_late (.bool true) rfl rfl (fun _ => rfl) ?_
           simp only [Nat.reduceAdd, Act.put, Xa, Xz, Xs]
           refine ws_late (.bool true) rfl rfl (fun _ => rfl) ?_
           simp only [Nat.reduceAdd, Act.put, Xa, Xz, Xs]
           refine ws_skip_late rfl rfl ?_
           simp only [Nat.reduceAdd, Act.put, Xa, Xz, Xs]
           refine ws_skip rfl rfl ?_
           simp only [Nat.reduceAdd, Act.put, Xa, Xz, Xs]
           refine ws_skip_late rfl rfl ?_
           simp only [Nat.reduceAdd, Act.put, Xa, Xz, Xs]
           refine ws_late (.bool true) rfl rfl (fun _ => rfl) ?_
           simp only [Nat.reduceAdd, Act.put, Xa, Xz, Xs]
           refine ws_late (.bool true) rfl rfl (fun _ => rfl) ?_
           simp only [Nat.reduceAdd, Act.put, Xa, Xz, Xs]
           refine ws_skip_late rfl rfl ?_
           simp only [Nat.reduceAdd, Act.put, Xa, Xz, Xs]
           refine ws_skip rfl rfl ?_
           simp only [Nat.reduceAdd, Act.put, Xa, Xz, Xs]
           refine ws_skip_late rfl rfl ?_
           simp only [Nat.reduceAdd, Act.put, Xa, Xz, Xs]
           refine ws_late (.bool true) rfl rfl (fun _ => rfl) ?_
           simp only [Nat.reduceAdd, Act.put, Xa, Xz, Xs]
           refine ws_nil [] trivial (by simp) ?_
           intro ps23
           simp only [fin, List.foldl_nil, List.map, List.nil_append]
           refine we_then ?_
           refine wc_true rfl ?_
           refine wc_seq ?_
           refine wc_region ?_
           refine wl_val (.int .i64 (r : Int)) rfl (fun _ => rfl) ?_
           simp only [Act.put, Xa, Xz, Xs]
           refine wl_val (.int .i64 16) rfl (fun _ => rfl) ?_
           simp only [Act.put, Xa, Xz, Xs]
           refine wl_val (.int .i64 (r : Int)) rfl (fun _ => rfl) ?_
           simp only [Act.put, Xa, Xz, Xs]
           refine wl_nil ?_
           refine we_then ?_
           refine wc_ret ?_
           refine we_then_ret ?_
           refine we_in_ret ?_
           refine we_then_ret ?_
           refine we_then_ret ?_
           refine we_in_ret ?_
           refine we_then_ret ?_
           refine we_ret2 (.int .i64 16) (.int .i64 (r : Int)) rfl rfl rfl rfl (fun w1 hE => ?_)
           have e0 : chk G H = (16, r) := chk_eq (.inr (.inr (.inl ⟨⟨by omega, by omega, by omega⟩, a2, rfl, (show r < H.length by omega), (fun (k : GrpMay G H r) => by have k1 := k.up; have k2 := k.high; have k3 := k.seg0; have k4 := k.segn; have k5 := k.off0; have k6 := k.offn; have k7 := k.acc0; have k8 := k.accn; have k9 := k.sl0; have k10 := k.sln; (try rw [← b3] at k1); omega), b2⟩)))
           exact ⟨by rw [e0]; rfl, hE.below⟩
         ·
          skip
          have p11 : (G.length : Int) ≤ (H[r]!).seg := of_decide_eq_true h11
          refine wc_true rfl ?_
          refine wc_seq ?_
          refine wc_region ?_
          refine wl_val (.int .i64 (r : Int)) rfl (fun _ => rfl) ?_
          simp only [Act.put, Xa, Xz, Xs]
          refine wl_val (.int .i64 16) rfl (fun _ => rfl) ?_
          simp only [Act.put, Xa, Xz, Xs]
          refine wl_val (.int .i64 (r : Int)) rfl (fun _ => rfl) ?_
          simp only [Act.put, Xa, Xz, Xs]
          refine wl_nil ?_
          refine we_then ?_
          refine wc_ret ?_
          refine we_then_ret ?_
          refine we_in_ret ?_
          refine we_then_ret ?_
          refine we_then_ret ?_
          refine we_in_ret ?_
          refine we_then_ret ?_
          refine we_ret2 (.int .i64 16) (.int .i64 (r : Int)) rfl rfl rfl rfl (fun w1 hE => ?_)
          have e0 : chk G H = (16, r) := chk_eq (.inr (.inr (.inl ⟨⟨by omega, by omega, by omega⟩, a2, rfl, (show r < H.length by omega), (fun (k : GrpMay G H r) => by have k1 := k.up; have k2 := k.high; have k3 := k.seg0; have k4 := k.segn; have k5 := k.off0; have k6 := k.offn; have k7 := k.acc0; have k8 := k.accn; have k9 := k.sl0; have k10 := k.sln; (try rw [← b3] at k1); omega), b2⟩)))
          exact ⟨by rw [e0]; rfl, hE.below⟩
        ·
         skip
         have p10 : (H[r]!).seg < 0 := of_decide_eq_true h10
         refine wl_skip rfl ?_
         simp only [Act.put, Xa, Xz, Xs]
         refine wl_skip rfl ?_
         simp only [Act.put, Xa, Xz, Xs]
         refine wl_skip rfl ?_
         simp only [Act.put, Xa, Xz, Xs]
         refine wl_skip rfl ?_
         simp only [Act.put, Xa, Xz, Xs]
         refine wl_skip rfl ?_
         simp only [Act.put, Xa, Xz, Xs]
         refine wl_skip rfl ?_
         simp only [Act.put, Xa, Xz, Xs]
         refine wl_val (.bool true) rfl (fun _ => rfl) ?_
         simp only [Act.put, Xa, Xz, Xs]
         refine wl_nil ?_
         refine we_then ?_
         refine wc_true rfl ?_
         refine wc_seq ?_
         refine wc_region ?_
         refine wl_val (.int .i64 (r : Int)) rfl (fun _ => rfl) ?_
         simp only [Act.put, Xa, Xz, Xs]
         refine wl_val (.int .i64 16) rfl (fun _ => rfl) ?_
         simp only [Act.put, Xa, Xz, Xs]
         refine wl_val (.int .i64 (r : Int)) rfl (fun _ => rfl) ?_
         simp only [Act.put, Xa, Xz, Xs]
         refine wl_nil ?_
         refine we_then ?_
         refine wc_ret ?_
         refine we_then_ret ?_
         refine we_in_ret ?_
         refine we_then_ret ?_
         refine we_then_ret ?_
         refine we_in_ret ?_
         refine we_then_ret ?_
         refine we_ret2 (.int .i64 16) (.int .i64 (r : Int)) rfl rfl rfl rfl (fun w1 hE => ?_)
         have e0 : chk G H = (16, r) := chk_eq (.inr (.inr (.inl ⟨⟨by omega, by omega, by omega⟩, a2, rfl, (show r < H.length by omega), (fun (k : GrpMay G H r) => by have k1 := k.up; have k2 := k.high; have k3 := k.seg0; have k4 := k.segn; have k5 := k.off0; have k6 := k.offn; have k7 := k.acc0; have k8 := k.accn; have k9 := k.sl0; have k10 := k.sln; (try rw [← b3] at k1); omega), b2⟩)))
         exact ⟨by rw [e0]; rfl, hE.below⟩
       ·
        skip
        have p9 : 65535 < (H[r]!).id := of_decide_eq_true h9
        refine wl_skip rfl ?_
        simp only [Act.put, Xa, Xz, Xs]
        refine wl_skip rfl ?_
        simp only [Act.put, Xa, Xz, Xs]
        refine wl_skip rfl ?_
        simp only [Act.put, Xa, Xz, Xs]
        refine wl_val (.bool true) rfl (fun _ => rfl) ?_
        simp only [Act.put, Xa, Xz, Xs]
        refine wl_val (.bool true) rfl (fun _ => rfl) ?_
        simp only [Act.put, Xa, Xz, Xs]
        refine wl_skip rfl ?_
        simp only [Act.put, Xa, Xz, Xs]
        refine wl_skip rfl ?_
        simp only [Act.put, Xa, Xz, Xs]
        refine wl_skip rfl ?_
        simp only [Act.put, Xa, Xz, Xs]
        refine wl_skip rfl ?_
        simp only [Act.put, Xa, Xz, Xs]
        refine wl_skip rfl ?_
        simp only [Act.put, Xa, Xz, Xs]
        refine wl_skip rfl ?_
        simp only [Act.put, Xa, Xz, Xs]
        refine wl_val (.bool true) rfl (fun _ => rfl) ?_
        simp only [Act.put, Xa, Xz, Xs]
        refine wl_nil ?_
        refine we_then ?_
        refine wc_true rfl ?_
        refine wc_seq ?_
        refine wc_region ?_
        refine wl_val (.int .i64 (r : Int)) rfl (fun _ => rfl) ?_
        simp only [Act.put, Xa, Xz, Xs]
        refine wl_val (.int .i64 16) rfl (fun _ => rfl) ?_
        simp only [Act.put, Xa, Xz, Xs]
        refine wl_val (.int .i64 (r : Int)) rfl (fun _ => rfl) ?_
        simp only [Act.put, Xa, Xz, Xs]
        refine wl_nil ?_
        refine we_then ?_
        refine wc_ret ?_
        refine we_then_ret ?_
        refine we_in_ret ?_
        refine we_then_ret ?_
        refine we_then_ret ?_
        refine we_in_ret ?_
        refine we_then_ret ?_
        refine we_ret2 (.int .i64 16) (.int .i64 (r : Int)) rfl rfl rfl rfl (fun w1 hE => ?_)
        have e0 : chk G H = (16, r) := chk_eq (.inr (.inr (.inl ⟨⟨by omega, by omega, by omega⟩, a2, rfl, (show r < H.length by omega), (fun (k : GrpMay G H r) => by have k1 := k.up; have k2 := k.high; have k3 := k.seg0; have k4 := k.segn; have k5 := k.off0; have k6 := k.offn; have k7 := k.acc0; have k8 := k.accn; have k9 := k.sl0; have k10 := k.sln; (try rw [← b3] at k1); omega), b2⟩)))
        exact ⟨by rw [e0]; rfl, hE.below⟩
      ·
       skip
       have p8 : (H[r]!).id ≤ z := of_decide_eq_true h8
       refine wl_skip rfl ?_
       simp only [Act.put, Xa, Xz, Xs]
       refine wl_skip rfl ?_
       simp only [Act.put, Xa, Xz, Xs]
       refine wl_skip rfl ?_
       simp only [Act.put, Xa, Xz, Xs]
       refine wl_val (.bool true) rfl (fun _ => rfl) ?_
       simp only [Act.put, Xa, Xz, Xs]
       refine wl_val (.bool true) rfl (fun _ => rfl) ?_
       simp only [Act.put, Xa, Xz, Xs]
       refine wl_skip rfl ?_
       simp only [Act.put, Xa, Xz, Xs]
       refine wl_skip rfl ?_
       simp only [Act.put, Xa, Xz, Xs]
       refine wl_skip rfl ?_
       simp only [Act.put, Xa, Xz, Xs]
       refine wl_val (.bool true) rfl (fun _ => rfl) ?_
       simp only [Act.put, Xa, Xz, Xs]
       refine wl_val (.bool true) rfl (fun _ => rfl) ?_
       simp only [Act.put, Xa, Xz, Xs]
       refine wl_skip rfl ?_
       simp only [Act.put, Xa, Xz, Xs]
       refine wl_skip rfl ?_
       simp only [Act.put, Xa, Xz, Xs]
       refine wl_skip rfl ?_
       simp only [Act.put, Xa, Xz, Xs]
       refine wl_skip rfl ?_
       simp only [Act.put, Xa, Xz, Xs]
       refine wl_skip rfl ?_
       simp only [Act.put, Xa, Xz, Xs]
       refine wl_skip rfl ?_
       simp only [Act.put, Xa, Xz, Xs]
       refine wl_val (.bool true) rfl (fun _ => rfl) ?_
       simp only [Act.put, Xa, Xz, Xs]
       refine wl_nil ?_
       refine we_then ?_
       refine wc_true rfl ?_
       refine wc_seq ?_
       refine wc_region ?_
       refine wl_val (.int .i64 (r : Int)) rfl (fun _ => rfl) ?_
       simp only [Act.put, Xa, Xz, Xs]
       refine wl_val (.int .i64 16) rfl (fun _ => rfl) ?_
       simp only [Act.put, Xa, Xz, Xs]
       refine wl_val (.int .i64 (r : Int)) rfl (fun _ => rfl) ?_
       simp only [Act.put, Xa, Xz, Xs]
       refine wl_nil ?_
       refine we_then ?_
       refine wc_ret ?_
       refine we_then_ret ?_
       refine we_in_ret ?_
       refine we_then_ret ?_
       refine we_then_ret ?_
       refine we_in_ret ?_
       refine we_then_ret ?_
       refine we_ret2 (.int .i64 16) (.int .i64 (r : Int)) rfl rfl rfl rfl (fun w1 hE => ?_)
       have e0 : chk G H = (16, r) := chk_eq (.inr (.inr (.inl ⟨⟨by omega, by omega, by omega⟩, a2, rfl, (show r < H.length by omega), (fun (k : GrpMay G H r) => by have k1 := k.up; have k2 := k.high; have k3 := k.seg0; have k4 := k.segn; have k5 := k.off0; have k6 := k.offn; have k7 := k.acc0; have k8 := k.accn; have k9 := k.sl0; have k10 := k.sln; (try rw [← b3] at k1); omega), b2⟩)))
       exact ⟨by rw [e0]; rfl, hE.below⟩
    ·
     skip
     have p5 : (i : Int) < (G.length : Int) := of_decide_eq_true h5
     refine wc_true rfl ?_
     refine wc_skip ?_
     refine we_then ?_
     refine wc_seq ?_
     refine wc_block ?_
     refine wc_seq ?_
     refine wc_draw [.late, .plain, .late, .plain, .plain, .late, .plain, .late, .plain, .late] none [] 115 (by kernel_rfl) rfl (by kernel_rfl) (by kernel_rfl) ?_
     refine ws_late (.pointer (some ⟨g1, 0, none⟩)) rfl rfl (fun _ => by go_simp) ?_
     simp only [Nat.reduceAdd, Act.put, Xa, Xz, Xs]
     refine ws_cell 47 (.tmp 31) (.slice p G.length c) (own_row 0 rfl) rfl rfl rfl rfl rfl Try.isAgg47 ?_
     simp only [Nat.reduceAdd, Act.put, Xa, Xz, Xs]
     refine ws_late (.int .i64 (i : Int)) rfl rfl (fun _ => rfl) ?_
     simp only [Nat.reduceAdd, Act.put, Xa, Xz, Xs]
     refine ws_read (eaddr p (i * 3)) rfl rfl (er_index i 3 (sl_old hS) rfl rfl rfl rfl (by omega) (flat_length (enc := sg) (size := 3) (fun _ => rfl) _) (by decide) Try.underlying47 (by kernel_rfl)) ?_
     simp only [Nat.reduceAdd, Act.put, Xa, Xz, Xs]
     refine ws_read (.agg #[.int .i64 ((G[i]!).len), .slice ((G[i]!).pp) ((G[i]!).P.length) ((G[i]!).pc), .slice ((G[i]!).np) ((G[i]!).X.length) ((G[i]!).nc)]) rfl rfl (er_part (i * 3) [.int .i64 ((G[i]!).len), .slice ((G[i]!).pp) ((G[i]!).P.length) ((G[i]!).pc), .slice ((G[i]!).np) ((G[i]!).X.length) ((G[i]!).nc)] (sl_old hS) rfl rfl (flat_part (enc := sg) (fun _ => rfl) G i (by omega)) (Nat.zero_lt_succ _) Try.underlying88 rfl (by kernel_rfl)) ?_
     simp only [Nat.reduceAdd, Act.put, Xa, Xz, Xs]
     refine ws_late (.pointer (some ⟨g1, 0, none⟩)) rfl rfl (fun _ => by go_simp) ?_
     simp only [Nat.reduceAdd, Act.put, Xa, Xz, Xs]
     refine ws_cell 47 (.tmp 36) (.slice p G.length c) (own_row 0 rfl) rfl rfl rfl rfl rfl Try.isAgg47 ?_
     simp only [Nat.reduceAdd, Act.put, Xa, Xz, Xs]
     refine ws_late (.int .i64 (G.length : Int)) rfl rfl (fun w => er_len rfl rfl Try.underlying47 w) ?_
     simp only [Nat.reduceAdd, Act.put, Xa, Xz, Xs]
     refine ws_call_at 36 #[.agg #[.int .i64 ((G[i]!).len), .slice ((G[i]!).pp) ((G[i]!).P.length) ((G[i]!).pc), .slice ((G[i]!).np) ((G[i]!).X.length) ((G[i]!).nc)], .int .i64 (G.length : Int)] (.bool (segB (G[i]!) (G.length : Int))) rfl rfl (fun _ => by go_simp) (fun W hE => segment_any (G[i]!) (G.length : Int) W (oksg_below (sg_at hG (by omega)) hE.below)) ?_
     simp only [Nat.reduceAdd, Act.put, Xa, Xz, Xs]
     refine ws_late (.bool (!(segB (G[i]!) (G.length : Int)))) rfl rfl (fun _ => by go_simp) ?_
     simp only [Nat.reduceAdd, Act.put, Xa, Xz, Xs]
     refine ws_nil [] trivial (by simp) ?_
     intro ps24
     simp only [fin, List.foldl_nil, List.map, List.nil_append]
     refine we_then ?_
     cases h25 : (segB (G[i]!) (G.length : Int))
     ·
      skip
      refine wc_true rfl ?_
      refine wc_seq ?_
      refine wc_region ?_
      refine wl_val (.int .i64 (i : Int)) rfl (fun _ => rfl) ?_
      simp only [Act.put, Xa, Xz, Xs]
      refine wl_val (.int .i64 11) rfl (fun _ => rfl) ?_
      simp only [Act.put, Xa, Xz, Xs]
      refine wl_val (.int .i64 (i : Int)) rfl (fun _ => rfl) ?_
      simp only [Act.put, Xa, Xz, Xs]
      refine wl_nil ?_
      refine we_then ?_
      refine wc_ret ?_
      refine we_in_ret ?_
      refine we_then_ret ?_
      refine we_then_ret ?_
      refine we_in_ret ?_
      refine we_then_ret ?_
      refine we_ret2 (.int .i64 11) (.int .i64 (i : Int)) rfl rfl rfl rfl (fun w1 hE => ?_)
      have e0 : chk G H = (11, i) := chk_eq (.inr (.inl ⟨⟨by omega, by omega, by omega⟩, rfl, (show i < G.length by omega), not_seg h25, b2⟩))
      exact ⟨by rw [e0]; rfl, hE.below⟩
     ·
      skip
      refine wc_false rfl ?_
      refine wc_skip ?_
      refine we_in ?_
      refine we_then ?_
      refine wc_region ?_
      refine wl_val (.int .i64 (i : Int)) rfl (fun _ => rfl) ?_
      simp only [Act.put, Xa, Xz, Xs]
      refine wl_val (.int .i64 ((i + 1 : Nat) : Int)) rfl (fun w => run_nat (X := i) (Y := 1) (Z := i + 1) rfl rfl rfl rfl (by omega) w) ?_
      simp only [Act.put, Xa, Xz, Xs]
      refine wl_val (.int .i64 ((i + 1 : Nat) : Int)) rfl (fun _ => rfl) ?_
      simp only [Act.put, Xa, Xz, Xs]
      refine wl_nil ?_
      exact we_meet ⟨(i + 1), _, _, _, _, _, _, _, _, _, _, _, _, _, _, _, _, _, _, _, _⟩ ⟨⟨by (try dsimp only); omega, fun j hj => by rcases Nat.lt_or_eq_of_le (Nat.le_of_lt_succ hj) with h | h; exact b2 j h; subst h; exact seg_of h25⟩, by (try dsimp only); omega⟩ rfl (List.Sublist.cons_cons _ List.Sublist.slnil)
   ·
    skip
    have p4 : 400 < (H.length : Int) := of_decide_eq_true h4
    refine wc_true rfl ?_
    refine wc_seq ?_
    refine wc_region ?_
    refine wl_val (.int .i64 13) rfl (fun _ => rfl) ?_
    simp only [Act.put, Xa, Xz, Xs]
    refine wl_val (.int .i64 0) rfl (fun _ => rfl) ?_
    simp only [Act.put, Xa, Xz, Xs]
    refine wl_nil ?_
    refine we_then ?_
    refine wc_ret ?_
    refine we_then_ret ?_
    refine we_ret2 (.int .i64 13) (.int .i64 0) rfl rfl rfl rfl (fun w1 hE => ?_)
    have e0 : chk G H = (13, 0) := chk_eq (.inl ⟨fun k => by have k1 := k.1; have k2 := k.2.1; have k3 := k.2.2; omega, rfl⟩)
    exact ⟨by rw [e0]; rfl, hE.below⟩
  ·
   skip
   have p3 : 200 < (G.length : Int) := of_decide_eq_true h3
   refine wl_skip rfl ?_
   simp only [Act.put, Xa, Xz, Xs]
   refine wl_skip rfl ?_
   simp only [Act.put, Xa, Xz, Xs]
   refine wl_skip rfl ?_
   simp only [Act.put, Xa, Xz, Xs]
   refine wl_skip rfl ?_
   simp only [Act.put, Xa, Xz, Xs]
   refine wl_val (.bool true) rfl (fun _ => rfl) ?_
   simp only [Act.put, Xa, Xz, Xs]
   refine wl_nil ?_
   refine we_then ?_
   refine wc_true rfl ?_
   refine wc_seq ?_
   refine wc_region ?_
   refine wl_val (.int .i64 13) rfl (fun _ => rfl) ?_
   simp only [Act.put, Xa, Xz, Xs]
   refine wl_val (.int .i64 0) rfl (fun _ => rfl) ?_
   simp only [Act.put, Xa, Xz, Xs]
   refine wl_nil ?_
   refine we_then ?_
   refine wc_ret ?_
   refine we_then_ret ?_
   refine we_ret2 (.int .i64 13) (.int .i64 0) rfl rfl rfl rfl (fun w1 hE => ?_)
   have e0 : chk G H = (13, 0) := chk_eq (.inl ⟨fun k => by have k1 := k.1; have k2 := k.2.1; have k3 := k.2.2; omega, rfl⟩)
   exact ⟨by rw [e0]; rfl, hE.below⟩
 ·
  skip
  have p2 : (G.length : Int) < 1 := of_decide_eq_true h2
  refine wl_skip rfl ?_
  simp only [Act.put, Xa, Xz, Xs]
  refine wl_skip rfl ?_
  simp only [Act.put, Xa, Xz, Xs]
  refine wl_skip rfl ?_
  simp only [Act.put, Xa, Xz, Xs]
  refine wl_skip rfl ?_
  simp only [Act.put, Xa, Xz, Xs]
  refine wl_val (.bool true) rfl (fun _ => rfl) ?_
  simp only [Act.put, Xa, Xz, Xs]
  refine wl_val (.bool true) rfl (fun _ => rfl) ?_
  simp only [Act.put, Xa, Xz, Xs]
  refine wl_skip rfl ?_
  simp only [Act.put, Xa, Xz, Xs]
  refine wl_skip rfl ?_
  simp only [Act.put, Xa, Xz, Xs]
  refine wl_skip rfl ?_
  simp only [Act.put, Xa, Xz, Xs]
  refine wl_skip rfl ?_
  simp only [Act.put, Xa, Xz, Xs]
  refine wl_val (.bool true) rfl (fun _ => rfl) ?_
  simp only [Act.put, Xa, Xz, Xs]
  refine wl_nil ?_
  refine we_then ?_
  refine wc_true rfl ?_
  refine wc_seq ?_
  refine wc_region ?_
  refine wl_val (.int .i64 13) rfl (fun _ => rfl) ?_
  simp only [Act.put, Xa, Xz, Xs]
  refine wl_val (.int .i64 0) rfl (fun _ => rfl) ?_
  simp only [Act.put, Xa, Xz, Xs]
  refine wl_nil ?_
  refine we_then ?_
  refine wc_ret ?_
  refine we_then_ret ?_
  refine we_ret2 (.int .i64 13) (.int .i64 0) rfl rfl rfl rfl (fun w1 hE => ?_)
  have e0 : chk G H = (13, 0) := chk_eq (.inl ⟨fun k => by have k1 := k.1; have k2 := k.2.1; have k3 := k.2.2; omega, rfl⟩)
  exact ⟨by rw [e0]; rfl, hE.below⟩
end Go.Proofs.Ytbacchdkankioaa.Tkref
namespace Go.Proofs.Ytbacchdkankioaa.Tkrefs21
open Go.ChangeShapes Go.WideShapes Go.ChangeAt Go.RowKit
open Arr Steady Sx Sw Sl Sb Sc Sh Vs Gr Tk Tkh
set_option linter.unusedVariables false
set_option linter.unusedSimpArgs false
set_option maxRecDepth 100000

set_option maxHeartbeats 6000000 in
theorem refs_any (G : List Sg) (H : List Gp) (p q : Option Addr) (c d : Nat) (w : World) (hS : Reads w p (flat sg G)) (hG : OkS w G) (hH : Reads w q (flat gp H)) (hn : G.length + H.length ≤ 800) (hf : ∀ j, j < G.length → (G[j]!).P.length ≤ 100 ∧ (G[j]!).X.length ≤ 100) :
  Calls Try.prog 11 #[.agg #[.slice p G.length c, .slice q H.length d]] w fun e w' => ∃ (K : List Sg) (s v : Own) (M : List Rw), K.length = G.length ∧ s.Has 3 G.length (flat sg K) ∧ v.Has 5 H.length (flat gp H) ∧ (∀ j, j < G.length → Copy M (G[j]!) (K[j]!)) ∧ e = .returned (.agg #[.slice s.ptr G.length s.cap, .slice v.ptr H.length v.cap]) ∧ Env w w' (s.rows 88 ++ (v.rows 84 ++ M)) := by
 refine calls_sx Try.func11 rfl ?_
 simp only [Try.ntmps11, List.size_toArray, List.length_cons, List.length_nil, Nat.reduceAdd, Nat.reduceSub, Array.replicate_succ, Array.replicate_zero, List.push_toArray, List.append_toArray, List.nil_append, List.cons_append]
 refine wc_seq ?_
 refine wc_region ?_
 refine wl_new 27 (#[.slice p G.length c, .slice q H.length d]) rfl (fun _ => by go_simp) ?_
 intro g1
 simp only [Act.put, Xa, Xz, Xs]
 refine wl_new 50 (#[.slice none 0 0, .slice none 0 0]) rfl (fun _ => by go_simp) ?_
 intro g2
 simp only [Act.put, Xa, Xz, Xs]
 refine wl_nil ?_
 refine we_then ?_
 refine wc_seq ?_
 refine wc_region ?_
 refine wl_new 50 (#[.slice none 0 0, .slice none 0 0]) rfl (fun _ => by go_simp) ?_
 intro g3
 simp only [Act.put, Xa, Xz, Xs]
 refine wl_nil ?_
 refine we_then ?_
 refine wc_seq ?_
 refine wc_seq ?_
 refine wc_region ?_
 refine wl_val (.pointer (some ⟨g1, 0, none⟩)) rfl (fun _ => by go_simp) ?_
 simp only [Act.put, Xa, Xz, Xs]
 refine wl_cell 24 (.tmp 11) (.slice p G.length c) (own_row 2 rfl) rfl rfl rfl rfl Try.isAgg24 ?_
 simp only [Act.put, Xa, Xz, Xs]
 refine wl_val (.int .i64 (G.length : Int)) rfl (fun w => er_len rfl rfl Try.underlying24 w) ?_
 simp only [Act.put, Xa, Xz, Xs]
 refine wl_val (.int .i64 0) rfl (fun _ => rfl) ?_
 simp only [Act.put, Xa, Xz, Xs]
 refine wl_nil ?_
 refine we_then ?_
 refine wc_block ?_
 refine wc_loop (fun (zz : Nat × Own × List Rw × List Sg × Value × Value × Value × Value × Value × Value × Value × Value × Value × Value × Value × Value × Value × Value × Value × Value × Value × Value × Value × Value × Value × Value × Value × Value × Value × Value × Value × Value × Value × Value × Value × Value × Value × Value × Value × Value) => match zz with | ⟨i, s, M, K, u5, u6, u8, u15, u16, u17, u18, u19, u20, u21, u22, u23, u24, u25, u26, u27, u28, u29, u30, u31, u32, u33, u34, u35, u36, u37, u38, u39, u40, u41, u42, u43, u44, u45, u46, u47⟩ => ({ tmps := #[.agg #[.slice p G.length c, .slice q H.length d], .pointer (some ⟨g1, 0, none⟩), .pointer (some ⟨g2, 0, none⟩), .pointer (some ⟨g3, 0, none⟩), undef, u5, u6, undef, u8, undef, undef, .pointer (some ⟨g1, 0, none⟩), .slice p G.length c, .int .i64 (G.length : Int), .int .i64 (i : Int), u15, u16, u17, u18, u19, u20, u21, u22, u23, u24, u25, u26, u27, u28, u29, u30, u31, u32, u33, u34, u35, u36, u37, u38, u39, u40, u41, u42, u43, u44, u45, u46, u47, undef, undef, undef, undef, undef, undef, undef, undef, undef, undef, undef, undef, undef, undef, undef], defers := [] } : Act)) (fun (zz : Nat × Own × List Rw × List Sg × Value × Value × Value × Value × Value × Value × Value × Value × Value × Value × Value × Value × Value × Value × Value × Value × Value × Value × Value × Value × Value × Value × Value × Value × Value × Value × Value × Value × Value × Value × Value × Value × Value × Value × Value × Value) => match zz with | ⟨i, s, M, K, u5, u6, u8, u15, u16, u17, u18, u19, u20, u21, u22, u23, u24, u25, u26, u27, u28, u29, u30, u31, u32, u33, u34, u35, u36, u37, u38, u39, u40, u41, u42, u43, u44, u45, u46, u47⟩ => ⟨g3, #[.slice s.ptr i s.cap, .slice none 0 0], 50⟩ :: ⟨g2, #[.slice none 0 0, .slice none 0 0], 50⟩ :: ⟨g1, #[.slice p G.length c, .slice q H.length d], 27⟩ :: (s.rows 88 ++ M)) (fun (zz : Nat × Own × List Rw × List Sg × Value × Value × Value × Value × Value × Value × Value × Value × Value × Value × Value × Value × Value × Value × Value × Value × Value × Value × Value × Value × Value × Value × Value × Value × Value × Value × Value × Value × Value × Value × Value × Value × Value × Value × Value × Value) => match zz with | ⟨i, s, M, K, u5, u6, u8, u15, u16, u17, u18, u19, u20, u21, u22, u23, u24, u25, u26, u27, u28, u29, u30, u31, u32, u33, u34, u35, u36, u37, u38, u39, u40, u41, u42, u43, u44, u45, u46, u47⟩ => i ≤ G.length ∧ s.Has 3 i (flat sg K) ∧ K.length = i ∧ ∀ j, j < i → Copy M (G[j]!) (K[j]!)) (fun (zz : Nat × Own × List Rw × List Sg × Value × Value × Value × Value × Value × Value × Value × Value × Value × Value × Value × Value × Value × Value × Value × Value × Value × Value × Value × Value × Value × Value × Value × Value × Value × Value × Value × Value × Value × Value × Value × Value × Value × Value × Value × Value) => match zz with | ⟨i, s, M, K, u5, u6, u8, u15, u16, u17, u18, u19, u20, u21, u22, u23, u24, u25, u26, u27, u28, u29, u30, u31, u32, u33, u34, u35, u36, u37, u38, u39, u40, u41, u42, u43, u44, u45, u46, u47⟩ => G.length - i) ⟨0, Own.none, [], [], _, _, _, _, _, _, _, _, _, _, _, _, _, _, _, _, _, _, _, _, _, _, _, _, _, _, _, _, _, _, _, _, _, _, _, _⟩ ⟨Nat.zero_le _, Own.has_none 3, rfl, fun j hj => absurd hj (Nat.not_lt_zero j)⟩ rfl (List.Sublist.cons_cons _ (List.Sublist.cons_cons _ (List.Sublist.cons_cons _ List.Sublist.slnil))) ?_
 rintro ⟨i, s, M, K, u5, u6, u8, u15, u16, u17, u18, u19, u20, u21, u22, u23, u24, u25, u26, u27, u28, u29, u30, u31, u32, u33, u34, u35, u36, u37, u38, u39, u40, u41, u42, u43, u44, u45, u46, u47⟩ hφ
 (try dsimp only at hφ ⊢)
 obtain ⟨b1, b2, b3, b4⟩ := hφ
 refine wc_seq ?_
 refine wc_region ?_
 refine wl_val (.bool (decide ((i : Int) < (G.length : Int)))) rfl (fun w => run_cmp rfl rfl rfl Try.underlying3 rfl w) ?_
 simp only [Act.put, Xa, Xz, Xs]
 refine wl_nil ?_
 refine we_then ?_
 refine wc_seq ?_
 cases h4 : (decide ((i : Int) < (G.length : Int)))
 ·
  skip
  have p4 : ¬ ((i : Int) < (G.length : Int)) := of_decide_eq_false h4
  refine wc_false rfl ?_
  refine wc_exit ?_
  refine we_then_exit ?_
  refine we_then_exit ?_
  refine we_in_here ?_
  refine we_then ?_
  refine wc_seq ?_
  refine wc_seq ?_
  have e2 : i = G.length := by omega
  subst e2
  refine wc_region ?_
  refine wl_val (.pointer (some ⟨g1, 1, none⟩)) rfl (fun _ => by go_simp) ?_
  simp only [Act.put, Xa, Xz, Xs]
  refine wl_cell 25 (.tmp 48) (.slice q H.length d) (own_row 2 rfl) rfl rfl rfl rfl Try.isAgg25 ?_
  simp only [Act.put, Xa, Xz, Xs]
  refine wl_val (.int .i64 (H.length : Int)) rfl (fun w => er_len rfl rfl Try.underlying25 w) ?_
  simp only [Act.put, Xa, Xz, Xs]
  refine wl_val (.int .i64 0) rfl (fun _ => rfl) ?_
  simp only [Act.put, Xa, Xz, Xs]
  refine wl_nil ?_
  refine we_then ?_
  refine wc_block ?_
  refine wc_loop (fun (zz : Nat × Own × Value × Value × Value × Value × Value × Value × Value × Value × Value × Value × Value) => match zz with | ⟨r, v, u10, u52, u53, u54, u55, u56, u57, u58, u59, u60, u61⟩ => ({ tmps := #[.agg #[.slice p G.length c, .slice q H.length d], .pointer (some ⟨g1, 0, none⟩), .pointer (some ⟨g2, 0, none⟩), .pointer (some ⟨g3, 0, none⟩), undef, u5, u6, undef, u8, undef, u10, .pointer (some ⟨g1, 0, none⟩), .slice p G.length c, .int .i64 (G.length : Int), .int .i64 (G.length : Int), .bool false, u16, u17, u18, u19, u20, u21, u22, u23, u24, u25, u26, u27, u28, u29, u30, u31, u32, u33, u34, u35, u36, u37, u38, u39, u40, u41, u42, u43, u44, u45, u46, u47, .pointer (some ⟨g1, 1, none⟩), .slice q H.length d, .int .i64 (H.length : Int), .int .i64 (r : Int), u52, u53, u54, u55, u56, u57, u58, u59, u60, u61, undef], defers := [] } : Act)) (fun (zz : Nat × Own × Value × Value × Value × Value × Value × Value × Value × Value × Value × Value × Value) => match zz with | ⟨r, v, u10, u52, u53, u54, u55, u56, u57, u58, u59, u60, u61⟩ => ⟨g3, #[.slice s.ptr G.length s.cap, .slice v.ptr r v.cap], 50⟩ :: ⟨g2, #[.slice none 0 0, .slice none 0 0], 50⟩ :: ⟨g1, #[.slice p G.length c, .slice q H.length d], 27⟩ :: (s.rows 88 ++ (v.rows 84 ++ M))) (fun (zz : Nat × Own × Value × Value × Value × Value × Value × Value × Value × Value × Value × Value × Value) => match zz with | ⟨r, v, u10, u52, u53, u54, u55, u56, u57, u58, u59, u60, u61⟩ => r ≤ H.length ∧ v.Has 5 r (flat gp (H.take r))) (fun (zz : Nat × Own × Value × Value × Value × Value × Value × Value × Value × Value × Value × Value × Value) => match zz with | ⟨r, v, u10, u52, u53, u54, u55, u56, u57, u58, u59, u60, u61⟩ => H.length - r) ⟨0, Own.none, _, _, _, _, _, _, _, _, _, _, _⟩ ⟨Nat.zero_le _, Own.has_none 5⟩ rfl (List.Sublist.cons_cons _ (List.Sublist.cons_cons _ (List.Sublist.cons_cons _ (List.Sublist.append_left (List.Sublist.refl _) _)))) ?_
  rintro ⟨r, v, u10, u52, u53, u54, u55, u56, u57, u58, u59, u60, u61⟩ hφ
  (try dsimp only at hφ ⊢)
  obtain ⟨d1, d2⟩ := hφ
  refine wc_seq ?_
  refine wc_region ?_
  refine wl_val (.bool (decide ((r : Int) < (H.length : Int)))) rfl (fun w => run_cmp rfl rfl rfl Try.underlying3 rfl w) ?_
  simp only [Act.put, Xa, Xz, Xs]
  refine wl_nil ?_
  refine we_then ?_
  refine wc_seq ?_
  cases h5 : (decide ((r : Int) < (H.length : Int)))
  ·
   skip
   have p5 : ¬ ((r : Int) < (H.length : Int)) := of_decide_eq_false h5
   refine wc_false rfl ?_
   refine wc_exit ?_
   refine we_then_exit ?_
   refine we_then_exit ?_
   refine we_in_here ?_
   refine we_then ?_
   refine wc_seq ?_
   refine wc_region ?_
   refine wl_load 50 (.tmp 3) (own_row 0 rfl) rfl rfl rfl Try.underlying50 rfl (by kernel_rfl) ?_
   simp only [Act.put, Xa, Xz, Xs]
   refine wl_store 1 50 (.tmp 2) (.tmp 62) (#[.slice s.ptr G.length s.cap, .slice v.ptr r v.cap]) rfl rfl rfl rfl rfl (by kernel_rfl) rfl (by simp [Value.oneCell']) ?_
   simp only [Act.put, List.set_cons_zero, List.set_cons_succ]
   refine wl_nil ?_
   refine we_then ?_
   refine wc_ret ?_
   refine we_ret_cell (own_row 1 rfl) rfl rfl rfl Try.underlying50 rfl (by kernel_rfl) (fun w1 hE => ?_)
   have e3 : r = H.length := by omega
   subst e3
   rw [List.take_length] at d2
   exact ⟨K, s, v, M, b3, b2, d2, b4, rfl, hE.sub (List.Sublist.cons _ (List.Sublist.cons _ (List.Sublist.cons _ (List.Sublist.refl _))))⟩
  ·
   skip
   have p5 : (r : Int) < (H.length : Int) := of_decide_eq_true h5
   refine wc_true rfl ?_
   refine wc_skip ?_
   refine we_then ?_
   refine wc_seq ?_
   refine wc_block ?_
   refine wc_seq ?_
   refine wc_region ?_
   refine wl_read (eaddr q (r * 5)) rfl (er_index r 5 (sl_old hH) rfl rfl rfl rfl (by omega) (flat_length (enc := gp) (size := 5) (fun _ => rfl) _) (by decide) Try.underlying25 (by kernel_rfl)) ?_
   simp only [Act.put, Xa, Xz, Xs]
   refine wl_read (.agg #[.int .i64 ((H[r]!).id), .int .i64 ((H[r]!).seg), .int .i64 ((H[r]!).off), .int .i64 ((H[r]!).acc), .int .i64 ((H[r]!).slack)]) rfl (er_part (r * 5) [.int .i64 ((H[r]!).id), .int .i64 ((H[r]!).seg), .int .i64 ((H[r]!).off), .int .i64 ((H[r]!).acc), .int .i64 ((H[r]!).slack)] (sl_old hH) rfl rfl (flat_part (enc := gp) (fun _ => rfl) H r (by omega)) (Nat.zero_lt_succ _) Try.underlying62 rfl (by kernel_rfl)) ?_
   simp only [Act.put, Xa, Xz, Xs]
   refine wl_new 62 (#[.int .i64 0, .int .i64 0, .int .i64 0, .int .i64 0, .int .i64 0]) rfl (fun _ => by go_simp) ?_
   intro g6
   simp only [Act.put, Xa, Xz, Xs]
   refine wl_store 0 62 (.tmp 10) (.tmp 54) (#[.int .i64 ((H[r]!).id), .int .i64 ((H[r]!).seg), .int .i64 ((H[r]!).off), .int .i64 ((H[r]!).acc), .int .i64 ((H[r]!).slack)]) rfl rfl rfl rfl rfl (by kernel_rfl) rfl (by simp [Value.oneCell']) ?_
   simp only [Act.put, List.set_cons_zero]
   refine wl_nil ?_
   refine we_then ?_
   refine wc_region ?_
   refine wl_val (.pointer (some ⟨g3, 1, none⟩)) rfl (fun _ => by go_simp) ?_
   simp only [Act.put, Xa, Xz, Xs]
   refine wl_cell 48 (.tmp 55) (.slice v.ptr r v.cap) (own_row 1 rfl) rfl rfl rfl rfl Try.isAgg48 ?_
   simp only [Act.put, Xa, Xz, Xs]
   refine wl_load 62 (.tmp 10) (own_row 0 rfl) rfl rfl rfl Try.underlying62 rfl (by kernel_rfl) ?_
   simp only [Act.put, Xa, Xz, Xs]
   refine wl_lit (e := 84) #[.int .i64 ((H[r]!).id), .int .i64 ((H[r]!).seg), .int .i64 ((H[r]!).off), .int .i64 ((H[r]!).acc), .int .i64 ((H[r]!).slack)] 1 rfl (fun _ => by go_simp) ?_
   intro g7
   simp only [Act.put, Xa, Xz, Xs]
   refine wl_append (e := 84) (size := 5) (bytes := 40) (m := 1) ([⟨g7, #[.int .i64 ((H[r]!).id), .int .i64 ((H[r]!).seg), .int .i64 ((H[r]!).off), .int .i64 ((H[r]!).acc), .int .i64 ((H[r]!).slack)], 84⟩, ⟨g6, #[.int .i64 ((H[r]!).id), .int .i64 ((H[r]!).seg), .int .i64 ((H[r]!).off), .int .i64 ((H[r]!).acc), .int .i64 ((H[r]!).slack)], 62⟩, ⟨g3, #[.slice s.ptr G.length s.cap, .slice v.ptr r v.cap], 50⟩, ⟨g2, #[.slice none 0 0, .slice none 0 0], 50⟩, ⟨g1, #[.slice p G.length c, .slice q H.length d], 27⟩] ++ (s.rows 88 ++ [])) M v (ys := [.int .i64 ((H[r]!).id), .int .i64 ((H[r]!).seg), .int .i64 ((H[r]!).off), .int .i64 ((H[r]!).acc), .int .i64 ((H[r]!).slack)]) (by simp) d2 (sl_row 0 rfl) rfl (by simp [Value.oneCell']) rfl rfl rfl rfl Try.underlying48 (by unfold Elem; kernel_rfl) (by decide) (by unfold maxLen; omega) (by omega) ?_
   intro s8 hs8
   simp only [List.append_assoc, List.cons_append, List.nil_append, Act.put, Xa, Xz, Xs]
   refine wl_val (.pointer (some ⟨g3, 1, none⟩)) rfl (fun _ => by go_simp) ?_
   simp only [Act.put, Xa, Xz, Xs]
   refine wl_store_cell 2 48 (.tmp 60) (.tmp 59) (.slice v.ptr r v.cap) (.slice s8.ptr (r + 1) s8.cap) rfl rfl rfl rfl rfl rfl (by kernel_rfl) rfl ?_
   simp only [Act.put, List.set_cons_zero, List.set_cons_succ]
   refine wl_nil ?_
   refine we_in ?_
   refine we_then ?_
   refine wc_region ?_
   refine wl_val (.int .i64 ((r + 1 : Nat) : Int)) rfl (fun w => run_nat (X := r) (Y := 1) (Z := r + 1) rfl rfl rfl rfl (by omega) w) ?_
   simp only [Act.put, Xa, Xz, Xs]
   refine wl_val (.int .i64 ((r + 1 : Nat) : Int)) rfl (fun _ => rfl) ?_
   simp only [Act.put, Xa, Xz, Xs]
   refine wl_nil ?_
   exact we_meet ⟨(r + 1), s8, _, _, _, _, _, _, _, _, _, _, _⟩ (by (try dsimp only); exact ⟨⟨by omega, by rw [take_snoc H r (by omega)]; exact has_snoc hs8⟩, by omega⟩) rfl (List.Sublist.cons _ (List.Sublist.cons _ (List.Sublist.cons_cons _ (List.Sublist.cons_cons _ (List.Sublist.cons_cons _ (List.Sublist.refl _))))))
 ·
  skip
  have p4 : (i : Int) < (G.length : Int) := of_decide_eq_true h4
  refine wc_true rfl ?_
  refine wc_skip ?_
  refine we_then ?_
  refine wc_seq ?_
  refine wc_block ?_
  refine wc_seq ?_
  refine wc_region ?_
  refine wl_read (eaddr p (i * 3)) rfl (er_index i 3 (sl_old hS) rfl rfl rfl rfl (by omega) (flat_length (enc := sg) (size := 3) (fun _ => rfl) _) (by decide) Try.underlying24 (by kernel_rfl)) ?_
  simp only [Act.put, Xa, Xz, Xs]
  refine wl_read (.agg #[.int .i64 ((G[i]!).len), .slice ((G[i]!).pp) ((G[i]!).P.length) ((G[i]!).pc), .slice ((G[i]!).np) ((G[i]!).X.length) ((G[i]!).nc)]) rfl (er_part (i * 3) [.int .i64 ((G[i]!).len), .slice ((G[i]!).pp) ((G[i]!).P.length) ((G[i]!).pc), .slice ((G[i]!).np) ((G[i]!).X.length) ((G[i]!).nc)] (sl_old hS) rfl rfl (flat_part (enc := sg) (fun _ => rfl) G i (by omega)) (Nat.zero_lt_succ _) Try.underlying66 rfl (by kernel_rfl)) ?_
  simp only [Act.put, Xa, Xz, Xs]
  refine wl_new 66 (#[.int .i64 0, .slice none 0 0, .slice none 0 0]) rfl (fun _ => by go_simp) ?_
  intro g9
  simp only [Act.put, Xa, Xz, Xs]
  refine wl_store 0 66 (.tmp 5) (.tmp 17) (#[.int .i64 ((G[i]!).len), .slice ((G[i]!).pp) ((G[i]!).P.length) ((G[i]!).pc), .slice ((G[i]!).np) ((G[i]!).X.length) ((G[i]!).nc)]) rfl rfl rfl rfl rfl (by kernel_rfl) rfl (by simp [Value.oneCell']) ?_
  simp only [Act.put, List.set_cons_zero]
  refine wl_nil ?_
  refine we_then ?_
  refine wc_seq ?_
  refine wc_region ?_
  refine wl_val (.pointer (some ⟨g9, 0, none⟩)) rfl (fun _ => by go_simp) ?_
  simp only [Act.put, Xa, Xz, Xs]
  refine wl_cell 2 (.tmp 18) (.int .i64 ((G[i]!).len)) (own_row 0 rfl) rfl rfl rfl rfl Try.isAgg2 ?_
  simp only [Act.put, Xa, Xz, Xs]
  refine wl_val (.pointer (some ⟨g9, 2, none⟩)) rfl (fun _ => by go_simp) ?_
  simp only [Act.put, Xa, Xz, Xs]
  refine wl_cell 63 (.tmp 20) (.slice ((G[i]!).np) ((G[i]!).X.length) ((G[i]!).nc)) (own_row 0 rfl) rfl rfl rfl rfl Try.isAgg63 ?_
  simp only [Act.put, Xa, Xz, Xs]
  refine wl_val (.agg #[.int .i64 ((G[i]!).len), .slice none 0 0, .slice ((G[i]!).np) ((G[i]!).X.length) ((G[i]!).nc)]) rfl (fun _ => by go_simp) ?_
  simp only [Act.put, Xa, Xz, Xs]
  refine wl_new 88 (#[.int .i64 0, .slice none 0 0, .slice none 0 0]) rfl (fun _ => by go_simp) ?_
  intro g10
  simp only [Act.put, Xa, Xz, Xs]
  refine wl_store 0 88 (.tmp 6) (.tmp 22) (#[.int .i64 ((G[i]!).len), .slice none 0 0, .slice ((G[i]!).np) ((G[i]!).X.length) ((G[i]!).nc)]) rfl rfl rfl rfl rfl (by kernel_rfl) rfl (by simp [Value.oneCell']) ?_
  simp only [Act.put, List.set_cons_zero]
  refine wl_nil ?_
  refine we_then ?_
  refine wc_seq ?_
  refine wc_seq ?_
  have fw := hf i (by omega)
  refine wc_region ?_
  refine wl_val (.pointer (some ⟨g9, 1, none⟩)) rfl (fun _ => by go_simp) ?_
  simp only [Act.put, Xa, Xz, Xs]
  refine wl_cell 64 (.tmp 23) (.slice ((G[i]!).pp) ((G[i]!).P.length) ((G[i]!).pc)) (own_row 1 rfl) rfl rfl rfl rfl Try.isAgg64 ?_
  simp only [Act.put, Xa, Xz, Xs]
  refine wl_val (.int .i64 (((G[i]!).P.length : Nat) : Int)) rfl (fun w => er_len rfl rfl Try.underlying64 w) ?_
  simp only [Act.put, Xa, Xz, Xs]
  refine wl_val (.int .i64 0) rfl (fun _ => rfl) ?_
  simp only [Act.put, Xa, Xz, Xs]
  refine wl_nil ?_
  refine we_then ?_
  refine wc_block ?_
  refine wc_loop (fun (zz : Nat × Own × Value × Value × Value × Value × Value × Value × Value × Value × Value × Value × Value × Value × Value × Value × Value) => match zz with | ⟨j, u, u8, u27, u28, u29, u30, u31, u32, u33, u34, u35, u36, u37, u38, u39, u40⟩ => ({ tmps := #[.agg #[.slice p G.length c, .slice q H.length d], .pointer (some ⟨g1, 0, none⟩), .pointer (some ⟨g2, 0, none⟩), .pointer (some ⟨g3, 0, none⟩), undef, .pointer (some ⟨g9, 0, none⟩), .pointer (some ⟨g10, 0, none⟩), undef, u8, undef, undef, .pointer (some ⟨g1, 0, none⟩), .slice p G.length c, .int .i64 (G.length : Int), .int .i64 (i : Int), .bool true, eaddr p (i * 3), .agg #[.int .i64 ((G[i]!).len), .slice ((G[i]!).pp) ((G[i]!).P.length) ((G[i]!).pc), .slice ((G[i]!).np) ((G[i]!).X.length) ((G[i]!).nc)], .pointer (some ⟨g9, 0, none⟩), .int .i64 ((G[i]!).len), .pointer (some ⟨g9, 2, none⟩), .slice ((G[i]!).np) ((G[i]!).X.length) ((G[i]!).nc), .agg #[.int .i64 ((G[i]!).len), .slice none 0 0, .slice ((G[i]!).np) ((G[i]!).X.length) ((G[i]!).nc)], .pointer (some ⟨g9, 1, none⟩), .slice ((G[i]!).pp) ((G[i]!).P.length) ((G[i]!).pc), .int .i64 (((G[i]!).P.length : Nat) : Int), .int .i64 (j : Int), u27, u28, u29, u30, u31, u32, u33, u34, u35, u36, u37, u38, u39, u40, u41, u42, u43, u44, u45, u46, u47, undef, undef, undef, undef, undef, undef, undef, undef, undef, undef, undef, undef, undef, undef, undef], defers := [] } : Act)) (fun (zz : Nat × Own × Value × Value × Value × Value × Value × Value × Value × Value × Value × Value × Value × Value × Value × Value × Value) => match zz with | ⟨j, u, u8, u27, u28, u29, u30, u31, u32, u33, u34, u35, u36, u37, u38, u39, u40⟩ => ⟨g10, #[.int .i64 ((G[i]!).len), .slice u.ptr j u.cap, .slice ((G[i]!).np) ((G[i]!).X.length) ((G[i]!).nc)], 88⟩ :: ⟨g9, #[.int .i64 ((G[i]!).len), .slice ((G[i]!).pp) ((G[i]!).P.length) ((G[i]!).pc), .slice ((G[i]!).np) ((G[i]!).X.length) ((G[i]!).nc)], 66⟩ :: ⟨g3, #[.slice s.ptr i s.cap, .slice none 0 0], 50⟩ :: ⟨g2, #[.slice none 0 0, .slice none 0 0], 50⟩ :: ⟨g1, #[.slice p G.length c, .slice q H.length d], 27⟩ :: (s.rows 88 ++ (u.rows 89 ++ M))) (fun (zz : Nat × Own × Value × Value × Value × Value × Value × Value × Value × Value × Value × Value × Value × Value × Value × Value × Value) => match zz with | ⟨j, u, u8, u27, u28, u29, u30, u31, u32, u33, u34, u35, u36, u37, u38, u39, u40⟩ => j ≤ (G[i]!).P.length ∧ u.Has 2 j (flat enc2 ((G[i]!).P.take j))) (fun (zz : Nat × Own × Value × Value × Value × Value × Value × Value × Value × Value × Value × Value × Value × Value × Value × Value × Value) => match zz with | ⟨j, u, u8, u27, u28, u29, u30, u31, u32, u33, u34, u35, u36, u37, u38, u39, u40⟩ => (G[i]!).P.length - j) ⟨0, Own.none, _, _, _, _, _, _, _, _, _, _, _, _, _, _, _⟩ ⟨Nat.zero_le _, Own.has_none 2⟩ rfl (List.Sublist.cons_cons _ (List.Sublist.cons_cons _ (List.Sublist.cons_cons _ (List.Sublist.cons_cons _ (List.Sublist.cons_cons _ (List.Sublist.append_left (List.Sublist.refl _) _)))))) ?_
  rintro ⟨j, u, u8, u27, u28, u29, u30, u31, u32, u33, u34, u35, u36, u37, u38, u39, u40⟩ hφ
  (try dsimp only at hφ ⊢)
  obtain ⟨c1, c2⟩ := hφ
  refine wc_seq ?_
  refine wc_region ?_
  refine wl_val (.bool (decide ((j : Int) < (((G[i]!).P.length : Nat) : Int)))) rfl (fun w => run_cmp rfl rfl rfl Try.underlying3 rfl w) ?_
  simp only [Act.put, Xa, Xz, Xs]
  refine wl_nil ?_
  refine we_then ?_
  refine wc_seq ?_
  cases h11 : (decide ((j : Int) < (((G[i]!).P.length : Nat) : Int)))
  ·
   skip
   have p11 : ¬ ((j : Int) < (((G[i]!).P.length : Nat) : Int)) := of_decide_eq_false h11
   refine wc_false rfl ?_
   refine wc_exit ?_
   refine we_then_exit ?_
   refine we_then_exit ?_
   refine we_in_here ?_
   refine we_then ?_
   have e1 : j = (G[i]!).P.length := by omega
   subst e1
   rw [List.take_length] at c2
   refine wc_region ?_
   refine wl_val (.pointer (some ⟨g3, 0, none⟩)) rfl (fun _ => by go_simp) ?_
   simp only [Act.put, Xa, Xz, Xs]
   refine wl_cell 47 (.tmp 41) (.slice s.ptr i s.cap) (own_row 2 rfl) rfl rfl rfl rfl Try.isAgg47 ?_
   simp only [Act.put, Xa, Xz, Xs]
   refine wl_load 88 (.tmp 6) (own_row 0 rfl) rfl rfl rfl Try.underlying88 rfl (by kernel_rfl) ?_
   simp only [Act.put, Xa, Xz, Xs]
   refine wl_lit (e := 88) #[.int .i64 ((G[i]!).len), .slice u.ptr ((G[i]!).P.length) u.cap, .slice ((G[i]!).np) ((G[i]!).X.length) ((G[i]!).nc)] 1 rfl (fun _ => by go_simp) ?_
   intro g12
   simp only [Act.put, Xa, Xz, Xs]
   refine wl_append (e := 88) (size := 3) (bytes := 56) (m := 1) [⟨g12, #[.int .i64 ((G[i]!).len), .slice u.ptr ((G[i]!).P.length) u.cap, .slice ((G[i]!).np) ((G[i]!).X.length) ((G[i]!).nc)], 88⟩, ⟨g10, #[.int .i64 ((G[i]!).len), .slice u.ptr ((G[i]!).P.length) u.cap, .slice ((G[i]!).np) ((G[i]!).X.length) ((G[i]!).nc)], 88⟩, ⟨g9, #[.int .i64 ((G[i]!).len), .slice ((G[i]!).pp) ((G[i]!).P.length) ((G[i]!).pc), .slice ((G[i]!).np) ((G[i]!).X.length) ((G[i]!).nc)], 66⟩, ⟨g3, #[.slice s.ptr i s.cap, .slice none 0 0], 50⟩, ⟨g2, #[.slice none 0 0, .slice none 0 0], 50⟩, ⟨g1, #[.slice p G.length c, .slice q H.length d], 27⟩] (u.rows 89 ++ M) s (ys := [.int .i64 ((G[i]!).len), .slice u.ptr ((G[i]!).P.length) u.cap, .slice ((G[i]!).np) ((G[i]!).X.length) ((G[i]!).nc)]) rfl b2 (sl_row 0 rfl) rfl (by simp [Value.oneCell']) rfl rfl rfl rfl Try.underlying47 (by unfold Elem; kernel_rfl) (by decide) (by unfold maxLen; omega) (by omega) ?_
   intro s13 hs13
   simp only [List.cons_append, List.nil_append, Act.put, Xa, Xz, Xs]
   refine wl_val (.pointer (some ⟨g3, 0, none⟩)) rfl (fun _ => by go_simp) ?_
   simp only [Act.put, Xa, Xz, Xs]
   refine wl_store_cell 3 47 (.tmp 46) (.tmp 45) (.slice s.ptr i s.cap) (.slice s13.ptr (i + 1) s13.cap) rfl rfl rfl rfl rfl rfl (by kernel_rfl) rfl ?_
   simp only [Act.put, List.set_cons_zero, List.set_cons_succ]
   refine wl_nil ?_
   refine we_in ?_
   refine we_then ?_
   refine wc_region ?_
   refine wl_val (.int .i64 ((i + 1 : Nat) : Int)) rfl (fun w => run_nat (X := i) (Y := 1) (Z := i + 1) rfl rfl rfl rfl (by omega) w) ?_
   simp only [Act.put, Xa, Xz, Xs]
   refine wl_val (.int .i64 ((i + 1 : Nat) : Int)) rfl (fun _ => rfl) ?_
   simp only [Act.put, Xa, Xz, Xs]
   refine wl_nil ?_
   exact we_meet ⟨(i + 1), s13, (u.rows 89 ++ M), (K ++ [⟨(G[i]!).len, u.ptr, (G[i]!).P, u.cap, (G[i]!).np, (G[i]!).X, (G[i]!).nc⟩]), _, _, _, _, _, _, _, _, _, _, _, _, _, _, _, _, _, _, _, _, _, _, _, _, _, _, _, _, _, _, _, _, _, _, _, _⟩ (by (try dsimp only); exact ⟨⟨by omega, has_snoc (x := (⟨(G[i]!).len, u.ptr, (G[i]!).P, u.cap, (G[i]!).np, (G[i]!).X, (G[i]!).nc⟩ : Sg)) hs13, by rw [List.length_append]; simp [b3], copy_snoc b3 b4 _ c2⟩, by omega⟩) rfl (List.Sublist.cons _ (List.Sublist.cons _ (List.Sublist.cons _ (List.Sublist.cons_cons _ (List.Sublist.cons_cons _ (List.Sublist.cons_cons _ (List.Sublist.append_left (List.Sublist.refl _) _)))))))
  ·
   skip
   have p11 : (j : Int) < (((G[i]!).P.length : Nat) : Int) := of_decide_eq_true h11
   refine wc_true rfl ?_
   refine wc_skip ?_
   refine we_then ?_
   refine wc_seq ?_
   refine wc_block ?_
   refine wc_seq ?_
   refine wc_region ?_
   refine wl_read (eaddr ((G[i]!).pp) (j * 2)) rfl (er_index j 2 (sl_old (sg_at hG (by omega)).p) rfl rfl rfl rfl (by omega) (flat_length (enc := enc2) (size := 2) (fun _ => rfl) _) (by decide) Try.underlying64 (by kernel_rfl)) ?_
   simp only [Act.put, Xa, Xz, Xs]
   refine wl_read (.agg #[.int .i64 ((((G[i]!).P)[j]!).1), .int .i64 ((((G[i]!).P)[j]!).2)]) rfl (er_part (j * 2) [.int .i64 ((((G[i]!).P)[j]!).1), .int .i64 ((((G[i]!).P)[j]!).2)] (sl_old (sg_at hG (by omega)).p) rfl rfl (flat_part (enc := enc2) (fun _ => rfl) ((G[i]!).P) j (by omega)) (Nat.zero_lt_succ _) Try.underlying74 rfl (by kernel_rfl)) ?_
   simp only [Act.put, Xa, Xz, Xs]
   refine wl_new 74 (#[.int .i64 0, .int .i64 0]) rfl (fun _ => by go_simp) ?_
   intro g14
   simp only [Act.put, Xa, Xz, Xs]
   refine wl_store 0 74 (.tmp 8) (.tmp 29) (#[.int .i64 ((((G[i]!).P)[j]!).1), .int .i64 ((((G[i]!).P)[j]!).2)]) rfl rfl rfl rfl rfl (by kernel_rfl) rfl (by simp [Value.oneCell']) ?_
   simp only [Act.put, List.set_cons_zero]
   refine wl_nil ?_
   refine we_then ?_
   refine wc_region ?_
   refine wl_val (.pointer (some ⟨g10, 1, none⟩)) rfl (fun _ => by go_simp) ?_
   simp only [Act.put, Xa, Xz, Xs]
   refine wl_cell 86 (.tmp 30) (.slice u.ptr j u.cap) (own_row 1 rfl) rfl rfl rfl rfl Try.isAgg86 ?_
   simp only [Act.put, Xa, Xz, Xs]
   refine wl_val (.pointer (some ⟨g14, 0, none⟩)) rfl (fun _ => by go_simp) ?_
   simp only [Act.put, Xa, Xz, Xs]
   refine wl_cell 2 (.tmp 32) (.int .i64 ((((G[i]!).P)[j]!).1)) (own_row 0 rfl) rfl rfl rfl rfl Try.isAgg2 ?_
   simp only [Act.put, Xa, Xz, Xs]
   refine wl_val (.pointer (some ⟨g14, 1, none⟩)) rfl (fun _ => by go_simp) ?_
   simp only [Act.put, Xa, Xz, Xs]
   refine wl_cell 2 (.tmp 34) (.int .i64 ((((G[i]!).P)[j]!).2)) (own_row 0 rfl) rfl rfl rfl rfl Try.isAgg2 ?_
   simp only [Act.put, Xa, Xz, Xs]
   refine wl_val (.agg #[.int .i64 ((((G[i]!).P)[j]!).1), .int .i64 ((((G[i]!).P)[j]!).2)]) rfl (fun _ => by go_simp) ?_
   simp only [Act.put, Xa, Xz, Xs]
   refine wl_lit (e := 89) #[.int .i64 ((((G[i]!).P)[j]!).1), .int .i64 ((((G[i]!).P)[j]!).2)] 1 rfl (fun _ => by go_simp) ?_
   intro g15
   simp only [Act.put, Xa, Xz, Xs]
   refine wl_append (e := 89) (size := 2) (bytes := 16) (m := 1) ([⟨g15, #[.int .i64 ((((G[i]!).P)[j]!).1), .int .i64 ((((G[i]!).P)[j]!).2)], 89⟩, ⟨g14, #[.int .i64 ((((G[i]!).P)[j]!).1), .int .i64 ((((G[i]!).P)[j]!).2)], 74⟩, ⟨g10, #[.int .i64 ((G[i]!).len), .slice u.ptr j u.cap, .slice ((G[i]!).np) ((G[i]!).X.length) ((G[i]!).nc)], 88⟩, ⟨g9, #[.int .i64 ((G[i]!).len), .slice ((G[i]!).pp) ((G[i]!).P.length) ((G[i]!).pc), .slice ((G[i]!).np) ((G[i]!).X.length) ((G[i]!).nc)], 66⟩, ⟨g3, #[.slice s.ptr i s.cap, .slice none 0 0], 50⟩, ⟨g2, #[.slice none 0 0, .slice none 0 0], 50⟩, ⟨g1, #[.slice p G.length c, .slice q H.length d], 27⟩] ++ (s.rows 88 ++ [])) M u (ys := [.int .i64 ((((G[i]!).P)[j]!).1), .int .i64 ((((G[i]!).P)[j]!).2)]) (by simp) c2 (sl_row 0 rfl) rfl (by simp [Value.oneCell']) rfl rfl rfl rfl Try.underlying86 (by unfold Elem; kernel_rfl) (by decide) (by unfold maxLen; omega) (by omega) ?_
   intro s16 hs16
   simp only [List.append_assoc, List.cons_append, List.nil_append, Act.put, Xa, Xz, Xs]
   refine wl_val (.pointer (some ⟨g10, 1, none⟩)) rfl (fun _ => by go_simp) ?_
   simp only [Act.put, Xa, Xz, Xs]
   refine wl_store_cell 2 86 (.tmp 39) (.tmp 38) (.slice u.ptr j u.cap) (.slice s16.ptr (j + 1) s16.cap) rfl rfl rfl rfl rfl rfl (by kernel_rfl) rfl ?_
   simp only [Act.put, List.set_cons_zero, List.set_cons_succ]
   refine wl_nil ?_
   refine we_in ?_
   refine we_then ?_
   refine wc_region ?_
   refine wl_val (.int .i64 ((j + 1 : Nat) : Int)) rfl (fun w => run_nat (X := j) (Y := 1) (Z := j + 1) rfl rfl rfl rfl (by omega) w) ?_
   simp only [Act.put, Xa, Xz, Xs]
   refine wl_val (.int .i64 ((j + 1 : Nat) : Int)) rfl (fun _ => rfl) ?_
   simp only [Act.put, Xa, Xz, Xs]
   refine wl_nil ?_
   exact we_meet ⟨(j + 1), s16, _, _, _, _, _, _, _, _, _, _, _, _, _, _, _⟩ (by (try dsimp only); exact ⟨⟨by omega, by rw [take_snoc (G[i]!).P j (by omega)]; exact has_snoc hs16⟩, by omega⟩) rfl (List.Sublist.cons _ (List.Sublist.cons _ (List.Sublist.cons_cons _ (List.Sublist.cons_cons _ (List.Sublist.cons_cons _ (List.Sublist.cons_cons _ (List.Sublist.cons_cons _ (List.Sublist.refl _))))))))
end Go.Proofs.Ytbacchdkankioaa.Tkrefs21
