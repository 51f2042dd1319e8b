/-
 The reference of layer 10 (grades), and the law's own helper. Condition: at most 2^47 pieces (refs: a million).
-/
import Derived.Test.YtbacchdkankioaaGr
namespace Go.Proofs.Ytbacchdkankioaa.Gref
open Go.ChangeShapes Go.WideShapes Go.ChangeAt Go.RowKit
open Arr Steady Sx Sw Sl Sb Sc Vs Gr
set_option linter.unusedVariables false
set_option linter.unusedSimpArgs false
set_option maxRecDepth 100000

set_option maxHeartbeats 2000000 in
theorem may_any (L : Spans) (p : Option Addr) (c : Nat) (n : Int) (w : World) (hL : Reads w p (flat enc2 L)) (hn : L.length ≤ 140737488355328) :
  Calls Try.prog 49 #[.slice p L.length c, .int .i64 n] w fun e w' => e = .returned (.bool (mayB L n)) ∧ Below w.heap.size w w' := by
 refine calls_sx Try.func49 rfl ?_
 simp only [Try.ntmps49, List.size_toArray, List.length_cons, List.length_nil, Nat.reduceAdd, Nat.reduceSub, Array.replicate_succ, Array.replicate_zero, List.push_toArray, List.append_toArray, List.nil_append, List.cons_append]
 refine wc_seq ?_
 refine wc_region ?_
 refine wl_val (.bool false) rfl (fun _ => rfl) ?_
 simp only [Act.put, Xa, Xz, Xs]
 refine wl_nil ?_
 refine we_then ?_
 refine wc_seq ?_
 refine wc_seq ?_
 refine wc_region ?_
 refine wl_val (.slice p L.length c) rfl (fun _ => rfl) ?_
 simp only [Act.put, Xa, Xz, Xs]
 refine wl_val (.int .i64 (L.length : Int)) rfl (fun w => er_len rfl rfl Try.underlying86 w) ?_
 simp only [Act.put, Xa, Xz, Xs]
 refine wl_val (.bool (decide ((L.length : Int) < 1))) rfl (fun w => run_cmp rfl rfl rfl Try.underlying3 rfl w) ?_
 simp only [Act.put, Xa, Xz, Xs]
 refine wl_val (.bool (decide ((L.length : Int) < 1))) rfl (fun _ => rfl) ?_
 simp only [Act.put, Xa, Xz, Xs]
 cases h1 : (decide ((L.length : Int) < 1))
 ·
  skip
  have p1 : ¬ ((L.length : Int) < 1) := of_decide_eq_false h1
  refine wl_val (.slice p L.length c) rfl (fun _ => rfl) ?_
  simp only [Act.put, Xa, Xz, Xs]
  refine wl_val (.int .i64 (L.length : Int)) rfl (fun w => er_len rfl rfl Try.underlying86 w) ?_
  simp only [Act.put, Xa, Xz, Xs]
  refine wl_val (.bool (decide (64 < (L.length : Int)))) rfl (fun w => run_cmp rfl rfl rfl Try.underlying3 rfl w) ?_
  simp only [Act.put, Xa, Xz, Xs]
  refine wl_val (.bool (decide (64 < (L.length : Int)))) rfl (fun _ => rfl) ?_
  simp only [Act.put, Xa, Xz, Xs]
  refine wl_val (.bool (decide (64 < (L.length : Int)))) rfl (fun _ => rfl) ?_
  simp only [Act.put, Xa, Xz, Xs]
  cases h2 : (decide (64 < (L.length : Int)))
  ·
   skip
   have p2 : ¬ (64 < (L.length : Int)) := of_decide_eq_false h2
   refine wl_val (.slice p L.length c) rfl (fun _ => rfl) ?_
   simp only [Act.put, Xa, Xz, Xs]
   refine wl_read (eaddr p (0 * 2)) rfl (er_index 0 2 (sl_old hL) rfl rfl rfl rfl (by omega) (flat_length (enc := enc2) (size := 2) (fun _ => rfl) _) (by decide) Try.underlying86 (by kernel_rfl)) ?_
   simp only [Act.put, Xa, Xz, Xs]
   refine wl_read (eaddr p (0 * 2 + 0)) rfl (er_field (z := 0) (0 * 2) 0 0 (sl_old hL) rfl rfl (flat_lt (enc := enc2) (fun _ => rfl) L 0 0 (by omega) (by decide)) Try.underlying89 rfl rfl (by kernel_rfl)) ?_
   simp only [Act.put, Xa, Xz, Xs]
   refine wl_read (.int .i64 ((L[0]!).1)) rfl (er_cell (0 * 2 + 0) (.int .i64 ((L[0]!).1)) (sl_old hL) rfl rfl (flat_cell (enc := enc2) (fun _ => rfl) L 0 0 (by omega) (by decide)) Try.isAgg2) ?_
   simp only [Act.put, Xa, Xz, Xs]
   refine wl_val (.bool (((L[0]!).1) != 0)) rfl (fun w => run_cmp rfl rfl rfl Try.underlying2 rfl w) ?_
   simp only [Act.put, Xa, Xz, Xs]
   refine wl_val (.bool (((L[0]!).1) != 0)) rfl (fun _ => rfl) ?_
   simp only [Act.put, Xa, Xz, Xs]
   refine wl_nil ?_
   refine we_then ?_
   cases h3 : (((L[0]!).1) != 0)
   ·
    skip
    have p3 : ¬ (((L[0]!).1) ≠ 0) := by simpa using h3
    refine wc_false rfl ?_
    refine wc_skip ?_
    refine we_then ?_
    refine wc_seq ?_
    refine wc_seq ?_
    refine wc_region ?_
    refine wl_val (.int .i64 0) rfl (fun _ => rfl) ?_
    simp only [Act.put, Xa, Xz, Xs]
    refine wl_nil ?_
    refine we_then ?_
    refine wc_block ?_
    refine wc_loop (fun (zz : Nat × Value × Value × Value × Value × Value × Value × Value × Value × Value × Value × Value × Value × Value × Value × Value × Value × Value × Value × Value × Value × Value × Value × Value × Value × Value × Value × Value × Value × Value × Value × Value × Value × Value × Value × Value × Value × Value × Value × Value × Value × Value × Value × Value × Value × Value × Value) => match zz with | ⟨i, u4, u21, u22, u23, u24, u25, u26, u27, u28, u29, u30, u31, u32, u33, u34, u35, u36, u37, u38, u39, u40, u41, u42, u43, u44, u45, u46, u47, u48, u49, u50, u51, u52, u53, u54, u55, u56, u57, u58, u59, u60, u61, u62, u63, u64, u65⟩ => ({ tmps := #[.slice p L.length c, .int .i64 n, undef, undef, u4, .int .i64 (i : Int), .slice p L.length c, .int .i64 (L.length : Int), .bool false, .bool false, .slice p L.length c, .int .i64 (L.length : Int), .bool false, .bool false, .bool false, .slice p L.length c, eaddr p (0 * 2), eaddr p (0 * 2 + 0), .int .i64 ((L[0]!).1), .bool false, .bool false, u21, u22, u23, u24, u25, u26, u27, u28, u29, u30, u31, u32, u33, u34, u35, u36, u37, u38, u39, u40, u41, u42, u43, u44, u45, u46, u47, u48, u49, u50, u51, u52, u53, u54, u55, u56, u57, u58, u59, u60, u61, u62, u63, u64, u65], defers := [] } : Act)) (fun (zz : Nat × Value × Value × Value × Value × Value × Value × Value × Value × Value × Value × Value × Value × Value × Value × Value × Value × Value × Value × Value × Value × Value × Value × Value × Value × Value × Value × Value × Value × Value × Value × Value × Value × Value × Value × Value × Value × Value × Value × Value × Value × Value × Value × Value × Value × Value × Value) => match zz with | ⟨i, u4, u21, u22, u23, u24, u25, u26, u27, u28, u29, u30, u31, u32, u33, u34, u35, u36, u37, u38, u39, u40, u41, u42, u43, u44, u45, u46, u47, u48, u49, u50, u51, u52, u53, u54, u55, u56, u57, u58, u59, u60, u61, u62, u63, u64, u65⟩ => []) (fun (zz : Nat × Value × Value × Value × Value × Value × Value × Value × Value × Value × Value × Value × Value × Value × Value × Value × Value × Value × Value × Value × Value × Value × Value × Value × Value × Value × Value × Value × Value × Value × Value × Value × Value × Value × Value × Value × Value × Value × Value × Value × Value × Value × Value × Value × Value × Value × Value) => match zz with | ⟨i, u4, u21, u22, u23, u24, u25, u26, u27, u28, u29, u30, u31, u32, u33, u34, u35, u36, u37, u38, u39, u40, u41, u42, u43, u44, u45, u46, u47, u48, u49, u50, u51, u52, u53, u54, u55, u56, u57, u58, u59, u60, u61, u62, u63, u64, u65⟩ => i ≤ L.length ∧ ∀ j, j < i → Piece L n j) (fun (zz : Nat × Value × Value × Value × Value × Value × Value × Value × Value × Value × Value × Value × Value × Value × Value × Value × Value × Value × Value × Value × Value × Value × Value × Value × Value × Value × Value × Value × Value × Value × Value × Value × Value × Value × Value × Value × Value × Value × Value × Value × Value × Value × Value × Value × Value × Value × Value) => match zz with | ⟨i, u4, u21, u22, u23, u24, u25, u26, u27, u28, u29, u30, u31, u32, u33, u34, u35, u36, u37, u38, u39, u40, u41, u42, u43, u44, u45, u46, u47, u48, u49, u50, u51, u52, u53, u54, u55, u56, u57, u58, u59, u60, u61, u62, u63, u64, u65⟩ => L.length - i) ⟨0, _, _, _, _, _, _, _, _, _, _, _, _, _, _, _, _, _, _, _, _, _, _, _, _, _, _, _, _, _, _, _, _, _, _, _, _, _, _, _, _, _, _, _, _, _, _⟩ ⟨Nat.zero_le _, fun j hj => absurd hj (Nat.not_lt_zero j)⟩ rfl List.Sublist.slnil ?_
    rintro ⟨i, u4, u21, u22, u23, u24, u25, u26, u27, u28, u29, u30, u31, u32, u33, u34, u35, u36, u37, u38, u39, u40, u41, u42, u43, u44, u45, u46, u47, u48, u49, u50, u51, u52, u53, u54, u55, u56, u57, u58, u59, u60, u61, u62, u63, u64, u65⟩ hφ
    (try dsimp only at hφ ⊢)
    obtain ⟨b1, b2⟩ := hφ
    refine wc_seq ?_
    refine wc_seq ?_
    refine wc_region ?_
    refine wl_val (.int .i64 (i : Int)) rfl (fun _ => rfl) ?_
    simp only [Act.put, Xa, Xz, Xs]
    refine wl_val (.slice p L.length c) rfl (fun _ => rfl) ?_
    simp only [Act.put, Xa, Xz, Xs]
    refine wl_val (.int .i64 (L.length : Int)) rfl (fun w => er_len rfl rfl Try.underlying86 w) ?_
    simp only [Act.put, Xa, Xz, Xs]
    refine wl_val (.bool (decide ((i : Int) < (L.length : Int)))) rfl (fun w => run_cmp rfl rfl rfl Try.underlying3 rfl w) ?_
    simp only [Act.put, Xa, Xz, Xs]
    refine wl_nil ?_
    refine we_then ?_
    cases h4 : (decide ((i : Int) < (L.length : Int)))
    ·
     skip
     have p4 : ¬ ((i : Int) < (L.length : Int)) := of_decide_eq_false h4
     refine wc_false rfl ?_
     refine wc_exit ?_
     refine we_then_exit ?_
     refine we_then_exit ?_
     refine we_in_here ?_
     refine we_then ?_
     refine wc_seq ?_
     refine wc_region ?_
     refine wl_val (.bool true) rfl (fun _ => rfl) ?_
     simp only [Act.put, Xa, Xz, Xs]
     refine wl_nil ?_
     refine we_then ?_
     refine wc_ret ?_
     refine we_ret1 (.bool true) rfl rfl rfl (fun w1 hE => ?_)
     have e1 : i = L.length := by omega
     rw [mayB_yes ⟨by omega, by omega, by omega, fun j hj => b2 j (by omega)⟩]
     exact ⟨rfl, hE.below⟩
    ·
     skip
     have p4 : (i : Int) < (L.length : Int) := of_decide_eq_true h4
     refine wc_true rfl ?_
     refine wc_skip ?_
     refine we_then ?_
     refine wc_seq ?_
     refine wc_block ?_
     refine wc_seq ?_
     refine wc_seq ?_
     refine wc_region ?_
     refine wl_val (.slice p L.length c) rfl (fun _ => rfl) ?_
     simp only [Act.put, Xa, Xz, Xs]
     refine wl_val (.int .i64 (i : Int)) rfl (fun _ => rfl) ?_
     simp only [Act.put, Xa, Xz, Xs]
     refine wl_read (eaddr p (i * 2)) rfl (er_index i 2 (sl_old hL) rfl rfl rfl rfl (by omega) (flat_length (enc := enc2) (size := 2) (fun _ => rfl) _) (by decide) Try.underlying86 (by kernel_rfl)) ?_
     simp only [Act.put, Xa, Xz, Xs]
     refine wl_read (eaddr p (i * 2 + 1)) rfl (er_field (z := 0) (i * 2) 1 1 (sl_old hL) rfl rfl (flat_lt (enc := enc2) (fun _ => rfl) L i 0 (by omega) (by decide)) Try.underlying89 rfl rfl (by kernel_rfl)) ?_
     simp only [Act.put, Xa, Xz, Xs]
     refine wl_read (.int .i64 ((L[i]!).2)) rfl (er_cell (i * 2 + 1) (.int .i64 ((L[i]!).2)) (sl_old hL) rfl rfl (flat_cell (enc := enc2) (fun _ => rfl) L i 1 (by omega) (by decide)) Try.isAgg2) ?_
     simp only [Act.put, Xa, Xz, Xs]
     refine wl_val (.bool (decide ((L[i]!).2 < -1048576))) rfl (fun w => run_cmp rfl rfl rfl Try.underlying2 rfl w) ?_
     simp only [Act.put, Xa, Xz, Xs]
     refine wl_val (.bool (decide ((L[i]!).2 < -1048576))) rfl (fun _ => rfl) ?_
     simp only [Act.put, Xa, Xz, Xs]
     cases h5 : (decide ((L[i]!).2 < -1048576))
     ·
      skip
      have p5 : ¬ ((L[i]!).2 < -1048576) := of_decide_eq_false h5
      refine wl_val (.slice p L.length c) rfl (fun _ => rfl) ?_
      simp only [Act.put, Xa, Xz, Xs]
      refine wl_val (.int .i64 (i : Int)) rfl (fun _ => rfl) ?_
      simp only [Act.put, Xa, Xz, Xs]
      refine wl_read (eaddr p (i * 2)) rfl (er_index i 2 (sl_old hL) rfl rfl rfl rfl (by omega) (flat_length (enc := enc2) (size := 2) (fun _ => rfl) _) (by decide) Try.underlying86 (by kernel_rfl)) ?_
      simp only [Act.put, Xa, Xz, Xs]
      refine wl_read (eaddr p (i * 2 + 1)) rfl (er_field (z := 0) (i * 2) 1 1 (sl_old hL) rfl rfl (flat_lt (enc := enc2) (fun _ => rfl) L i 0 (by omega) (by decide)) Try.underlying89 rfl rfl (by kernel_rfl)) ?_
      simp only [Act.put, Xa, Xz, Xs]
      refine wl_read (.int .i64 ((L[i]!).2)) rfl (er_cell (i * 2 + 1) (.int .i64 ((L[i]!).2)) (sl_old hL) rfl rfl (flat_cell (enc := enc2) (fun _ => rfl) L i 1 (by omega) (by decide)) Try.isAgg2) ?_
      simp only [Act.put, Xa, Xz, Xs]
      refine wl_val (.bool (decide (1048576 < (L[i]!).2))) rfl (fun w => run_cmp rfl rfl rfl Try.underlying2 rfl w) ?_
      simp only [Act.put, Xa, Xz, Xs]
      refine wl_val (.bool (decide (1048576 < (L[i]!).2))) rfl (fun _ => rfl) ?_
      simp only [Act.put, Xa, Xz, Xs]
      refine wl_val (.bool (decide (1048576 < (L[i]!).2))) rfl (fun _ => rfl) ?_
      simp only [Act.put, Xa, Xz, Xs]
      cases h6 : (decide (1048576 < (L[i]!).2))
      ·
       skip
       have p6 : ¬ (1048576 < (L[i]!).2) := of_decide_eq_false h6
       refine wl_val (.slice p L.length c) rfl (fun _ => rfl) ?_
       simp only [Act.put, Xa, Xz, Xs]
       refine wl_val (.int .i64 (i : Int)) rfl (fun _ => rfl) ?_
       simp only [Act.put, Xa, Xz, Xs]
       refine wl_read (eaddr p (i * 2)) rfl (er_index i 2 (sl_old hL) rfl rfl rfl rfl (by omega) (flat_length (enc := enc2) (size := 2) (fun _ => rfl) _) (by decide) Try.underlying86 (by kernel_rfl)) ?_
       simp only [Act.put, Xa, Xz, Xs]
       refine wl_read (eaddr p (i * 2 + 0)) rfl (er_field (z := 0) (i * 2) 0 0 (sl_old hL) rfl rfl (flat_lt (enc := enc2) (fun _ => rfl) L i 0 (by omega) (by decide)) Try.underlying89 rfl rfl (by kernel_rfl)) ?_
       simp only [Act.put, Xa, Xz, Xs]
       refine wl_read (.int .i64 ((L[i]!).1)) rfl (er_cell (i * 2 + 0) (.int .i64 ((L[i]!).1)) (sl_old hL) rfl rfl (flat_cell (enc := enc2) (fun _ => rfl) L i 0 (by omega) (by decide)) Try.isAgg2) ?_
       simp only [Act.put, Xa, Xz, Xs]
       refine wl_val (.int .i64 n) rfl (fun _ => rfl) ?_
       simp only [Act.put, Xa, Xz, Xs]
       refine wl_val (.bool (decide (n ≤ (L[i]!).1))) rfl (fun w => run_cmp rfl rfl rfl Try.underlying2 rfl w) ?_
       simp only [Act.put, Xa, Xz, Xs]
       refine wl_val (.bool (decide (n ≤ (L[i]!).1))) rfl (fun _ => rfl) ?_
       simp only [Act.put, Xa, Xz, Xs]
       refine wl_nil ?_
       refine we_then ?_
       cases h7 : (decide (n ≤ (L[i]!).1))
       ·
        skip
        have p7 : ¬ (n ≤ (L[i]!).1) := of_decide_eq_false h7
        refine wc_false rfl ?_
        refine wc_skip ?_
        refine we_then ?_
        refine wc_seq ?_
        refine wc_draw [.late, .late, .late, .late, .late, .plain, .plain, .plain, .late, .late, .late, .plain, .plain, .plain, .late, .late] none [] 66 (by kernel_rfl) rfl (by kernel_rfl) (by kernel_rfl) ?_
        refine ws_late (.int .i64 (i : Int)) rfl rfl (fun _ => rfl) ?_
        simp only [Nat.reduceAdd, Act.put, Xa, Xz, Xs]
        refine ws_late (.bool (decide (0 < (i : Int)))) rfl rfl (fun w => run_cmp rfl rfl rfl Try.underlying3 rfl w) ?_
        simp only [Nat.reduceAdd, Act.put, Xa, Xz, Xs]
        refine ws_late (.bool (decide (0 < (i : Int)))) rfl rfl (fun _ => rfl) ?_
        simp only [Nat.reduceAdd, Act.put, Xa, Xz, Xs]
        cases h8 : (decide (0 < (i : Int)))
        ·
         skip
         have p8 : ¬ (0 < (i : Int)) := of_decide_eq_false h8
         refine ws_skip_late rfl rfl ?_
         simp only [Nat.reduceAdd, Act.put, Xa, Xz, Xs]
         refine ws_skip_late rfl rfl ?_
         simp only [Nat.reduceAdd, Act.put, Xa, Xz, Xs]
         refine ws_skip rfl rfl ?_
         simp only [Nat.reduceAdd, Act.put, Xa, Xz, Xs]
         refine ws_skip rfl rfl ?_
         simp only [Nat.reduceAdd, Act.put, Xa, Xz, Xs]
         refine ws_skip rfl rfl ?_
         simp only [Nat.reduceAdd, Act.put, Xa, Xz, Xs]
         refine ws_skip_late rfl rfl ?_
         simp only [Nat.reduceAdd, Act.put, Xa, Xz, Xs]
         refine ws_skip_late rfl rfl ?_
         simp only [Nat.reduceAdd, Act.put, Xa, Xz, Xs]
         refine ws_skip_late rfl rfl ?_
         simp only [Nat.reduceAdd, Act.put, Xa, Xz, Xs]
         refine ws_skip rfl rfl ?_
         simp only [Nat.reduceAdd, Act.put, Xa, Xz, Xs]
         refine ws_skip rfl rfl ?_
         simp only [Nat.reduceAdd, Act.put, Xa, Xz, Xs]
         refine ws_skip rfl rfl ?_
         simp only [Nat.reduceAdd, Act.put, Xa, Xz, Xs]
         refine ws_skip_late rfl rfl ?_
         simp only [Nat.reduceAdd, Act.put, Xa, Xz, Xs]
         refine ws_late (.bool false) rfl rfl (fun _ => rfl) ?_
         simp only [Nat.reduceAdd, Act.put, Xa, Xz, Xs]
         refine ws_nil [] trivial (by simp) ?_
         intro ps9
         simp only [fin, List.foldl_nil, List.map, List.nil_append]
         refine we_then ?_
         refine wc_false rfl ?_
         refine wc_skip ?_
         refine we_in ?_
         refine we_then ?_
         refine wc_region ?_
         refine wl_val (.int .i64 (i : Int)) rfl (fun _ => rfl) ?_
         simp only [Act.put, Xa, Xz, Xs]
         refine wl_val (.int .i64 ((i + 1 : Nat) : Int)) rfl (fun w => run_nat (X := i) (Y := 1) (Z := i + 1) rfl rfl rfl rfl (by omega) w) ?_
         simp only [Act.put, Xa, Xz, Xs]
         refine wl_val (.int .i64 ((i + 1 : Nat) : Int)) rfl (fun _ => rfl) ?_
         simp only [Act.put, Xa, Xz, Xs]
         refine wl_nil ?_
         exact we_meet ⟨(i + 1), _, _, _, _, _, _, _, _, _, _, _, _, _, _, _, _, _, _, _, _, _, _, _, _, _, _, _, _, _, _, _, _, _, _, _, _, _, _, _, _, _, _, _, _, _, _⟩ ⟨⟨by (try dsimp only); omega, fun j hj => by rcases Nat.lt_or_eq_of_le (Nat.le_of_lt_succ hj) with h | h; exact b2 j h; subst h; exact ⟨by omega, by omega, by omega, fun h0 => by omega⟩⟩, by (try dsimp only); omega⟩ rfl List.Sublist.slnil
        ·
         skip
         have p8 : 0 < (i : Int) := of_decide_eq_true h8
         refine ws_late (.slice p L.length c) rfl rfl (fun _ => rfl) ?_
         simp only [Nat.reduceAdd, Act.put, Xa, Xz, Xs]
         refine ws_late (.int .i64 (i : Int)) rfl rfl (fun _ => rfl) ?_
         simp only [Nat.reduceAdd, Act.put, Xa, Xz, Xs]
         refine ws_read (eaddr p (i * 2)) rfl rfl (er_index i 2 (sl_old hL) rfl rfl rfl rfl (by omega) (flat_length (enc := enc2) (size := 2) (fun _ => rfl) _) (by decide) Try.underlying86 (by kernel_rfl)) ?_
         simp only [Nat.reduceAdd, Act.put, Xa, Xz, Xs]
         refine ws_read (eaddr p (i * 2 + 0)) rfl rfl (er_field (z := 0) (i * 2) 0 0 (sl_old hL) rfl rfl (flat_lt (enc := enc2) (fun _ => rfl) L i 0 (by omega) (by decide)) Try.underlying89 rfl rfl (by kernel_rfl)) ?_
         simp only [Nat.reduceAdd, Act.put, Xa, Xz, Xs]
         refine ws_read (.int .i64 ((L[i]!).1)) rfl rfl (er_cell (i * 2 + 0) (.int .i64 ((L[i]!).1)) (sl_old hL) rfl rfl (flat_cell (enc := enc2) (fun _ => rfl) L i 0 (by omega) (by decide)) Try.isAgg2) ?_
         simp only [Nat.reduceAdd, Act.put, Xa, Xz, Xs]
         refine ws_late (.slice p L.length c) rfl rfl (fun _ => rfl) ?_
         simp only [Nat.reduceAdd, Act.put, Xa, Xz, Xs]
         refine ws_late (.int .i64 (i : Int)) rfl rfl (fun _ => rfl) ?_
         simp only [Nat.reduceAdd, Act.put, Xa, Xz, Xs]
         refine ws_late (.int .i64 ((i - 1 : Nat) : Int)) rfl rfl (fun w => run_nat (X := i) (Y := 1) (Z := i - 1) rfl rfl rfl (natOf_sub (by omega)) (by omega) w) ?_
         simp only [Nat.reduceAdd, Act.put, Xa, Xz, Xs]
         refine ws_read (eaddr p ((i - 1) * 2)) rfl rfl (er_index (i - 1) 2 (sl_old hL) rfl rfl rfl rfl (by omega) (flat_length (enc := enc2) (size := 2) (fun _ => rfl) _) (by decide) Try.underlying86 (by kernel_rfl)) ?_
         simp only [Nat.reduceAdd, Act.put, Xa, Xz, Xs]
         refine ws_read (eaddr p ((i - 1) * 2 + 0)) rfl rfl (er_field (z := 0) ((i - 1) * 2) 0 0 (sl_old hL) rfl rfl (flat_lt (enc := enc2) (fun _ => rfl) L (i - 1) 0 (by omega) (by decide)) Try.underlying89 rfl rfl (by kernel_rfl)) ?_
         simp only [Nat.reduceAdd, Act.put, Xa, Xz, Xs]
         refine ws_read (.int .i64 ((L[i - 1]!).1)) rfl rfl (er_cell ((i - 1) * 2 + 0) (.int .i64 ((L[i - 1]!).1)) (sl_old hL) rfl rfl (flat_cell (enc := enc2) (fun _ => rfl) L (i - 1) 0 (by omega) (by decide)) Try.isAgg2) ?_
         simp only [Nat.reduceAdd, Act.put, Xa, Xz, Xs]
         refine ws_late (.bool (decide ((L[i]!).1 ≤ (L[i - 1]!).1))) rfl rfl (fun w => run_cmp rfl rfl rfl Try.underlying2 rfl w) ?_
         simp only [Nat.reduceAdd, Act.put, Xa, Xz, Xs]
         refine ws_late (.bool (decide ((L[i]!).1 ≤ (L[i - 1]!).1))) rfl rfl (fun _ => rfl) ?_
         simp only [Nat.reduceAdd, Act.put, Xa, Xz, Xs]
         refine ws_nil [] trivial (by simp) ?_
         intro ps10
         simp only [fin, List.foldl_nil, List.map, List.nil_append]
         refine we_then ?_
         cases h11 : (decide ((L[i]!).1 ≤ (L[i - 1]!).1))
         ·
          skip
          have p11 : ¬ ((L[i]!).1 ≤ (L[i - 1]!).1) := of_decide_eq_false h11
          refine wc_false rfl ?_
          refine wc_skip ?_
          refine we_in ?_
          refine we_then ?_
          refine wc_region ?_
          refine wl_val (.int .i64 (i : Int)) rfl (fun _ => rfl) ?_
          simp only [Act.put, Xa, Xz, Xs]
          refine wl_val (.int .i64 ((i + 1 : Nat) : Int)) rfl (fun w => run_nat (X := i) (Y := 1) (Z := i + 1) rfl rfl rfl rfl (by omega) w) ?_
          simp only [Act.put, Xa, Xz, Xs]
          refine wl_val (.int .i64 ((i + 1 : Nat) : Int)) rfl (fun _ => rfl) ?_
          simp only [Act.put, Xa, Xz, Xs]
          refine wl_nil ?_
          exact we_meet ⟨(i + 1), _, _, _, _, _, _, _, _, _, _, _, _, _, _, _, _, _, _, _, _, _, _, _, _, _, _, _, _, _, _, _, _, _, _, _, _, _, _, _, _, _, _, _, _, _, _⟩ ⟨⟨by (try dsimp only); omega, fun j hj => by rcases Nat.lt_or_eq_of_le (Nat.le_of_lt_succ hj) with h | h; exact b2 j h; subst h; exact ⟨by omega, by omega, by omega, fun h0 => by omega⟩⟩, by (try dsimp only); omega⟩ rfl List.Sublist.slnil
         ·
          skip
          have p11 : (L[i]!).1 ≤ (L[i - 1]!).1 := of_decide_eq_true h11
          refine wc_true rfl ?_
          refine wc_seq ?_
          refine wc_region ?_
          refine wl_val (.bool false) rfl (fun _ => rfl) ?_
          simp only [Act.put, Xa, Xz, Xs]
          refine wl_nil ?_
          refine we_then ?_
          refine wc_ret ?_
          refine we_in_ret ?_
          refine we_then_ret ?_
          refine we_then_ret ?_
          refine we_in_ret ?_
          refine we_then_ret ?_
          refine we_ret1 (.bool false) rfl rfl rfl (fun w1 hE => ?_)
          rw [mayB_no (fun hm => by have h1 := hm.each i (by omega); have h2 := h1.low; have h3 := h1.high; have h4 := h1.within; have h5 := h1.up; omega)]
          exact ⟨rfl, hE.below⟩
       ·
        skip
        have p7 : n ≤ (L[i]!).1 := of_decide_eq_true h7
        refine wc_true rfl ?_
        refine wc_seq ?_
        refine wc_region ?_
        refine wl_val (.bool false) rfl (fun _ => rfl) ?_
        simp only [Act.put, Xa, Xz, Xs]
        refine wl_nil ?_
        refine we_then ?_
        refine wc_ret ?_
        refine we_then_ret ?_
        refine we_in_ret ?_
        refine we_then_ret ?_
        refine we_then_ret ?_
        refine we_in_ret ?_
        refine we_then_ret ?_
        refine we_ret1 (.bool false) rfl rfl rfl (fun w1 hE => ?_)
        rw [mayB_no (fun hm => by have h1 := hm.each i (by omega); have h2 := h1.low; have h3 := h1.high; have h4 := h1.within; have h5 := h1.up; omega)]
        exact ⟨rfl, hE.below⟩
      ·
       skip
       have p6 : 1048576 < (L[i]!).2 := of_decide_eq_true h6
       refine wl_skip rfl ?_
       simp only [Act.put, Xa, Xz, Xs]
       refine wl_skip rfl ?_
       simp only [Act.put, Xa, Xz, Xs]
       refine wl_skip rfl ?_
       simp only [Act.put, Xa, Xz, Xs]
       refine wl_skip rfl ?_
       simp only [Act.put, Xa, Xz, Xs]
       refine wl_skip rfl ?_
       simp only [Act.put, Xa, Xz, Xs]
       refine wl_skip rfl ?_
       simp only [Act.put, Xa, Xz, Xs]
       refine wl_skip rfl ?_
       simp only [Act.put, Xa, Xz, Xs]
       refine wl_val (.bool true) rfl (fun _ => rfl) ?_
       simp only [Act.put, Xa, Xz, Xs]
       refine wl_nil ?_
       refine we_then ?_
       refine wc_true rfl ?_
       refine wc_seq ?_
       refine wc_region ?_
       refine wl_val (.bool false) rfl (fun _ => rfl) ?_
       simp only [Act.put, Xa, Xz, Xs]
       refine wl_nil ?_
       refine we_then ?_
       refine wc_ret ?_
       refine we_then_ret ?_
       refine we_in_ret ?_
       refine we_then_ret ?_
       refine we_then_ret ?_
       refine we_in_ret ?_
       refine we_then_ret ?_
       refine we_ret1 (.bool false) rfl rfl rfl (fun w1 hE => ?_)
       rw [mayB_no (fun hm => by have h1 := hm.each i (by omega); have h2 := h1.low; have h3 := h1.high; have h4 := h1.within; have h5 := h1.up; omega)]
       exact ⟨rfl, hE.below⟩
     ·
      skip
      have p5 : (L[i]!).2 < -1048576 := of_decide_eq_true h5
      refine wl_skip rfl ?_
      simp only [Act.put, Xa, Xz, Xs]
      refine wl_skip rfl ?_
      simp only [Act.put, Xa, Xz, Xs]
      refine wl_skip rfl ?_
      simp only [Act.put, Xa, Xz, Xs]
      refine wl_skip rfl ?_
      simp only [Act.put, Xa, Xz, Xs]
      refine wl_skip rfl ?_
      simp only [Act.put, Xa, Xz, Xs]
      refine wl_skip rfl ?_
      simp only [Act.put, Xa, Xz, Xs]
      refine wl_val (.bool true) rfl (fun _ => rfl) ?_
      simp only [Act.put, Xa, Xz, Xs]
      refine wl_val (.bool true) rfl (fun _ => rfl) ?_
      simp only [Act.put, Xa, Xz, Xs]
      refine wl_skip rfl ?_
      simp only [Act.put, Xa, Xz, Xs]
      refine wl_skip rfl ?_
      simp only [Act.put, Xa, Xz, Xs]
      refine wl_skip rfl ?_
      simp only [Act.put, Xa, Xz, Xs]
      refine wl_skip rfl ?_
      simp only [Act.put, Xa, Xz, Xs]
      refine wl_skip rfl ?_
      simp only [Act.put, Xa, Xz, Xs]
      refine wl_skip rfl ?_
      simp only [Act.put, Xa, Xz, Xs]
      refine wl_skip rfl ?_
      simp only [Act.put, Xa, Xz, Xs]
      refine wl_val (.bool true) rfl (fun _ => rfl) ?_
      simp only [Act.put, Xa, Xz, Xs]
      refine wl_nil ?_
      refine we_then ?_
      refine wc_true rfl ?_
      refine wc_seq ?_
      refine wc_region ?_
      refine wl_val (.bool false) rfl (fun _ => rfl) ?_
      simp only [Act.put, Xa, Xz, Xs]
      refine wl_nil ?_
      refine we_then ?_
      refine wc_ret ?_
      refine we_then_ret ?_
      refine we_in_ret ?_
      refine we_then_ret ?_
      refine we_then_ret ?_
      refine we_in_ret ?_
      refine we_then_ret ?_
      refine we_ret1 (.bool false) rfl rfl rfl (fun w1 hE => ?_)
      rw [mayB_no (fun hm => by have h1 := hm.each i (by omega); have h2 := h1.low; have h3 := h1.high; have h4 := h1.within; have h5 := h1.up; omega)]
      exact ⟨rfl, hE.below⟩
   ·
    skip
    have p3 : ((L[0]!).1) ≠ 0 := by simpa using h3
    refine wc_true rfl ?_
    refine wc_seq ?_
    refine wc_region ?_
    refine wl_val (.bool false) rfl (fun _ => rfl) ?_
    simp only [Act.put, Xa, Xz, Xs]
    refine wl_nil ?_
    refine we_then ?_
    refine wc_ret ?_
    refine we_then_ret ?_
    refine we_ret1 (.bool false) rfl rfl rfl (fun w1 hE => ?_)
    rw [mayB_no (fun hm => by have h1 := hm.some; have h2 := hm.few; have h3 := hm.first; omega)]
    exact ⟨rfl, hE.below⟩
  ·
   skip
   have p2 : 64 < (L.length : Int) := of_decide_eq_true h2
   refine wl_skip rfl ?_
   simp only [Act.put, Xa, Xz, Xs]
   refine wl_skip rfl ?_
   simp only [Act.put, Xa, Xz, Xs]
   refine wl_skip rfl ?_
   simp only [Act.put, Xa, Xz, Xs]
   refine wl_skip rfl ?_
   simp only [Act.put, Xa, Xz, Xs]
   refine wl_skip rfl ?_
   simp only [Act.put, Xa, Xz, Xs]
   refine wl_val (.bool true) rfl (fun _ => rfl) ?_
   simp only [Act.put, Xa, Xz, Xs]
   refine wl_nil ?_
   refine we_then ?_
   refine wc_true rfl ?_
   refine wc_seq ?_
   refine wc_region ?_
   refine wl_val (.bool false) rfl (fun _ => rfl) ?_
   simp only [Act.put, Xa, Xz, Xs]
   refine wl_nil ?_
   refine we_then ?_
   refine wc_ret ?_
   refine we_then_ret ?_
   refine we_ret1 (.bool false) rfl rfl rfl (fun w1 hE => ?_)
   rw [mayB_no (fun hm => by have h1 := hm.some; have h2 := hm.few; have h3 := hm.first; omega)]
   exact ⟨rfl, hE.below⟩
 ·
  skip
  have p1 : (L.length : Int) < 1 := of_decide_eq_true h1
  refine wl_skip rfl ?_
  simp only [Act.put, Xa, Xz, Xs]
  refine wl_skip rfl ?_
  simp only [Act.put, Xa, Xz, Xs]
  refine wl_skip rfl ?_
  simp only [Act.put, Xa, Xz, Xs]
  refine wl_val (.bool true) rfl (fun _ => rfl) ?_
  simp only [Act.put, Xa, Xz, Xs]
  refine wl_val (.bool true) rfl (fun _ => rfl) ?_
  simp only [Act.put, Xa, Xz, Xs]
  refine wl_skip rfl ?_
  simp only [Act.put, Xa, Xz, Xs]
  refine wl_skip rfl ?_
  simp only [Act.put, Xa, Xz, Xs]
  refine wl_skip rfl ?_
  simp only [Act.put, Xa, Xz, Xs]
  refine wl_skip rfl ?_
  simp only [Act.put, Xa, Xz, Xs]
  refine wl_skip rfl ?_
  simp only [Act.put, Xa, Xz, Xs]
  refine wl_val (.bool true) rfl (fun _ => rfl) ?_
  simp only [Act.put, Xa, Xz, Xs]
  refine wl_nil ?_
  refine we_then ?_
  refine wc_true rfl ?_
  refine wc_seq ?_
  refine wc_region ?_
  refine wl_val (.bool false) rfl (fun _ => rfl) ?_
  simp only [Act.put, Xa, Xz, Xs]
  refine wl_nil ?_
  refine we_then ?_
  refine wc_ret ?_
  refine we_then_ret ?_
  refine we_ret1 (.bool false) rfl rfl rfl (fun w1 hE => ?_)
  rw [mayB_no (fun hm => by have h1 := hm.some; have h2 := hm.few; have h3 := hm.first; omega)]
  exact ⟨rfl, hE.below⟩
end Go.Proofs.Ytbacchdkankioaa.Gref
