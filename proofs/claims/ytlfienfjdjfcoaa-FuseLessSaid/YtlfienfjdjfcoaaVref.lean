/-
 The reference of layer 5 (how many spans have a number; the least and the greatest that so many have), and the law's own helpers. Condition: at most a million spans.
-/
import Derived.Test.YtlfienfjdjfcoaaSpn
import Derived.Test.YtlfienfjdjfcoaaVs
namespace Go.Proofs.Ytlfienfjdjfcoaa.Vref
open Go.ChangeShapes Go.WideShapes Go.ChangeAt Go.RowKit
open Arr Steady Sx Sw Sl Spn Vs
set_option linter.unusedVariables false
set_option maxRecDepth 100000

set_option maxHeartbeats 2000000 in
theorem many_any (L : Spans) (p : Option Addr) (c : Nat) (x : Int) (w : World) (hL : Reads w p (flat enc2 L)) (hn : L.length ≤ 1000000) :
  Calls Try.prog 33 #[.slice p L.length c, .int .i64 x] w fun e w' => e = .returned (.int .i64 (cnt L x : Int)) ∧ Below w.heap.size w w' := by
 refine calls_sx Try.func33 rfl ?_
 simp only [Try.ntmps33, List.size_toArray, List.length_cons, List.length_nil, Nat.reduceAdd, Nat.reduceSub, Array.replicate_succ, Array.replicate_zero, List.push_toArray, List.append_toArray, List.nil_append, List.cons_append]
 refine wc_seq ?_
 refine wc_region ?_
 refine wl_val (.int .i64 0) rfl (fun _ => rfl) ?_
 simp only [Act.put, Xa, Xz, Xs]
 refine wl_nil ?_
 refine we_then ?_
 refine wc_seq ?_
 refine wc_region ?_
 refine wl_val (.int .i64 0) rfl (fun _ => rfl) ?_
 simp only [Act.put, Xa, Xz, Xs]
 refine wl_nil ?_
 refine we_then ?_
 refine wc_seq ?_
 refine wc_seq ?_
 refine wc_region ?_
 refine wl_val (.int .i64 0) rfl (fun _ => rfl) ?_
 simp only [Act.put, Xa, Xz, Xs]
 refine wl_nil ?_
 refine we_then ?_
 refine wc_block ?_
 refine wc_loop (fun (zz : Nat × Nat × Value × Value × Value × Value × Value × Value × Value × Value × Value × Value × Value × Value × Value × Value × Value × Value × Value × Value × Value × Value × Value × Value × Value × Value) => match zz with | ⟨i, m, u7, u8, u9, u10, u11, u12, u13, u14, u15, u16, u17, u18, u19, u20, u21, u22, u23, u24, u25, u26, u27, u28, u29, u30⟩ => ({ tmps := #[.slice p L.length c, .int .i64 x, undef, undef, .int .i64 0, .int .i64 (m : Int), .int .i64 (i : Int), u7, u8, u9, u10, u11, u12, u13, u14, u15, u16, u17, u18, u19, u20, u21, u22, u23, u24, u25, u26, u27, u28, u29, u30, undef], defers := [] } : Act)) (fun (zz : Nat × Nat × Value × Value × Value × Value × Value × Value × Value × Value × Value × Value × Value × Value × Value × Value × Value × Value × Value × Value × Value × Value × Value × Value × Value × Value) => match zz with | ⟨i, m, u7, u8, u9, u10, u11, u12, u13, u14, u15, u16, u17, u18, u19, u20, u21, u22, u23, u24, u25, u26, u27, u28, u29, u30⟩ => []) (fun (zz : Nat × Nat × Value × Value × Value × Value × Value × Value × Value × Value × Value × Value × Value × Value × Value × Value × Value × Value × Value × Value × Value × Value × Value × Value × Value × Value) => match zz with | ⟨i, m, u7, u8, u9, u10, u11, u12, u13, u14, u15, u16, u17, u18, u19, u20, u21, u22, u23, u24, u25, u26, u27, u28, u29, u30⟩ => i ≤ L.length ∧ m ≤ i ∧ m = cnt (L.take i) x) (fun (zz : Nat × Nat × Value × Value × Value × Value × Value × Value × Value × Value × Value × Value × Value × Value × Value × Value × Value × Value × Value × Value × Value × Value × Value × Value × Value × Value) => match zz with | ⟨i, m, u7, u8, u9, u10, u11, u12, u13, u14, u15, u16, u17, u18, u19, u20, u21, u22, u23, u24, u25, u26, u27, u28, u29, u30⟩ => L.length - i) ⟨0, 0, _, _, _, _, _, _, _, _, _, _, _, _, _, _, _, _, _, _, _, _, _, _, _, _⟩ (by (try dsimp only); exact ⟨by omega, by omega, rfl⟩) rfl List.Sublist.slnil ?_
 rintro ⟨i, m, u7, u8, u9, u10, u11, u12, u13, u14, u15, u16, u17, u18, u19, u20, u21, u22, u23, u24, u25, u26, u27, u28, u29, u30⟩ hφ
 (try dsimp only at hφ ⊢)
 obtain ⟨b1, b2, b3⟩ := hφ
 refine wc_seq ?_
 refine wc_seq ?_
 refine wc_region ?_
 refine wl_val (.int .i64 (i : Int)) rfl (fun _ => rfl) ?_
 simp only [Act.put, Xa, Xz, Xs]
 refine wl_val (.slice p L.length c) rfl (fun _ => rfl) ?_
 simp only [Act.put, Xa, Xz, Xs]
 refine wl_val (.int .i64 (L.length : Int)) rfl (fun w => er_len rfl rfl Try.underlying54 w) ?_
 simp only [Act.put, Xa, Xz, Xs]
 refine wl_val (.bool (decide ((i : Int) < (L.length : Int)))) rfl (fun w => run_cmp rfl rfl rfl Try.underlying3 rfl w) ?_
 simp only [Act.put, Xa, Xz, Xs]
 refine wl_nil ?_
 refine we_then ?_
 cases h1 : (decide ((i : Int) < (L.length : Int)))
 ·
  skip
  have p1 : ¬ ((i : Int) < (L.length : Int)) := of_decide_eq_false h1
  refine wc_false rfl ?_
  refine wc_exit ?_
  refine we_then_exit ?_
  refine we_then_exit ?_
  refine we_in_here ?_
  refine we_then ?_
  refine wc_seq ?_
  refine wc_region ?_
  refine wl_val (.int .i64 (m : Int)) rfl (fun _ => rfl) ?_
  simp only [Act.put, Xa, Xz, Xs]
  refine wl_val (.int .i64 (m : Int)) rfl (fun _ => rfl) ?_
  simp only [Act.put, Xa, Xz, Xs]
  refine wl_nil ?_
  refine we_then ?_
  refine wc_ret ?_
  refine we_ret1 (.int .i64 (m : Int)) rfl rfl rfl (fun w1 hE => ?_)
  have e1 : i = L.length := by omega
  subst e1
  rw [List.take_length] at b3
  exact ⟨by rw [b3], hE.below⟩
 ·
  skip
  have p1 : (i : Int) < (L.length : Int) := of_decide_eq_true h1
  refine wc_true rfl ?_
  refine wc_skip ?_
  refine we_then ?_
  refine wc_seq ?_
  refine wc_block ?_
  refine wc_seq ?_
  refine wc_region ?_
  refine wl_val (.slice p L.length c) rfl (fun _ => rfl) ?_
  simp only [Act.put, Xa, Xz, Xs]
  refine wl_val (.int .i64 (i : Int)) rfl (fun _ => rfl) ?_
  simp only [Act.put, Xa, Xz, Xs]
  refine wl_read (eaddr p (i * 2)) rfl (er_index i 2 (sl_old hL) rfl rfl rfl rfl (by omega) (flat_length (enc := enc2) (size := 2) (fun _ => rfl) _) (by decide) Try.underlying54 (by kernel_rfl)) ?_
  simp only [Act.put, Xa, Xz, Xs]
  refine wl_read (eaddr p (i * 2 + 0)) rfl (er_field (z := 0) (i * 2) 0 0 (sl_old hL) rfl rfl (flat_lt (enc := enc2) (fun _ => rfl) L i 0 (by omega) (by decide)) Try.underlying28 rfl rfl (by kernel_rfl)) ?_
  simp only [Act.put, Xa, Xz, Xs]
  refine wl_read (.int .i64 ((L[i]!).1)) rfl (er_cell (i * 2 + 0) (.int .i64 ((L[i]!).1)) (sl_old hL) rfl rfl (flat_cell (enc := enc2) (fun _ => rfl) L i 0 (by omega) (by decide)) Try.isAgg2) ?_
  simp only [Act.put, Xa, Xz, Xs]
  refine wl_val (.int .i64 x) rfl (fun _ => rfl) ?_
  simp only [Act.put, Xa, Xz, Xs]
  refine wl_val (.bool (decide ((L[i]!).1 ≤ x))) rfl (fun w => run_cmp rfl rfl rfl Try.underlying2 rfl w) ?_
  simp only [Act.put, Xa, Xz, Xs]
  refine wl_val (.bool (decide ((L[i]!).1 ≤ x))) rfl (fun _ => rfl) ?_
  simp only [Act.put, Xa, Xz, Xs]
  cases h2 : (decide ((L[i]!).1 ≤ x))
  ·
   skip
   have p2 : ¬ ((L[i]!).1 ≤ x) := of_decide_eq_false h2
   refine wl_skip rfl ?_
   simp only [Act.put, Xa, Xz, Xs]
   refine wl_skip rfl ?_
   simp only [Act.put, Xa, Xz, Xs]
   refine wl_skip rfl ?_
   simp only [Act.put, Xa, Xz, Xs]
   refine wl_skip rfl ?_
   simp only [Act.put, Xa, Xz, Xs]
   refine wl_skip rfl ?_
   simp only [Act.put, Xa, Xz, Xs]
   refine wl_skip rfl ?_
   simp only [Act.put, Xa, Xz, Xs]
   refine wl_skip rfl ?_
   simp only [Act.put, Xa, Xz, Xs]
   refine wl_val (.bool false) rfl (fun _ => rfl) ?_
   simp only [Act.put, Xa, Xz, Xs]
   refine wl_nil ?_
   refine we_then ?_
   refine wc_false rfl ?_
   refine wc_skip ?_
   refine we_in ?_
   refine we_then ?_
   refine wc_region ?_
   refine wl_val (.int .i64 (i : Int)) rfl (fun _ => rfl) ?_
   simp only [Act.put, Xa, Xz, Xs]
   refine wl_val (.int .i64 ((i : Int) + 1)) rfl (fun w => run_arith (op := .add) rfl rfl rfl Try.underlying3 (congrArg some (i64_in (by omega) (by omega))) w) ?_
   simp only [Act.put, Xa, Xz, Xs]
   refine wl_val (.int .i64 ((i : Int) + 1)) rfl (fun _ => rfl) ?_
   simp only [Act.put, Xa, Xz, Xs]
   refine wl_nil ?_
   exact we_meet ⟨(i + 1), m, _, _, _, _, _, _, _, _, _, _, _, _, _, _, _, _, _, _, _, _, _, _, _, _⟩ (by (try dsimp only); exact ⟨⟨by omega, by omega, cnt_no (by omega) b3 (by show (decide ((L[i]!).1 ≤ x) && decide (x ≤ (L[i]!).2)) = false; rw [h2]; rfl)⟩, by omega⟩) rfl List.Sublist.slnil
  ·
   skip
   have p2 : (L[i]!).1 ≤ x := of_decide_eq_true h2
   refine wl_val (.int .i64 x) rfl (fun _ => rfl) ?_
   simp only [Act.put, Xa, Xz, Xs]
   refine wl_val (.slice p L.length c) rfl (fun _ => rfl) ?_
   simp only [Act.put, Xa, Xz, Xs]
   refine wl_val (.int .i64 (i : Int)) rfl (fun _ => rfl) ?_
   simp only [Act.put, Xa, Xz, Xs]
   refine wl_read (eaddr p (i * 2)) rfl (er_index i 2 (sl_old hL) rfl rfl rfl rfl (by omega) (flat_length (enc := enc2) (size := 2) (fun _ => rfl) _) (by decide) Try.underlying54 (by kernel_rfl)) ?_
   simp only [Act.put, Xa, Xz, Xs]
   refine wl_read (eaddr p (i * 2 + 1)) rfl (er_field (z := 0) (i * 2) 1 1 (sl_old hL) rfl rfl (flat_lt (enc := enc2) (fun _ => rfl) L i 0 (by omega) (by decide)) Try.underlying28 rfl rfl (by kernel_rfl)) ?_
   simp only [Act.put, Xa, Xz, Xs]
   refine wl_read (.int .i64 ((L[i]!).2)) rfl (er_cell (i * 2 + 1) (.int .i64 ((L[i]!).2)) (sl_old hL) rfl rfl (flat_cell (enc := enc2) (fun _ => rfl) L i 1 (by omega) (by decide)) Try.isAgg2) ?_
   simp only [Act.put, Xa, Xz, Xs]
   refine wl_val (.bool (decide (x ≤ (L[i]!).2))) rfl (fun w => run_cmp rfl rfl rfl Try.underlying2 rfl w) ?_
   simp only [Act.put, Xa, Xz, Xs]
   refine wl_val (.bool (decide (x ≤ (L[i]!).2))) rfl (fun _ => rfl) ?_
   simp only [Act.put, Xa, Xz, Xs]
   refine wl_nil ?_
   refine we_then ?_
   cases h3 : (decide (x ≤ (L[i]!).2))
   ·
    skip
    have p3 : ¬ (x ≤ (L[i]!).2) := of_decide_eq_false h3
    refine wc_false rfl ?_
    refine wc_skip ?_
    refine we_in ?_
    refine we_then ?_
    refine wc_region ?_
    refine wl_val (.int .i64 (i : Int)) rfl (fun _ => rfl) ?_
    simp only [Act.put, Xa, Xz, Xs]
    refine wl_val (.int .i64 ((i : Int) + 1)) rfl (fun w => run_arith (op := .add) rfl rfl rfl Try.underlying3 (congrArg some (i64_in (by omega) (by omega))) w) ?_
    simp only [Act.put, Xa, Xz, Xs]
    refine wl_val (.int .i64 ((i : Int) + 1)) rfl (fun _ => rfl) ?_
    simp only [Act.put, Xa, Xz, Xs]
    refine wl_nil ?_
    exact we_meet ⟨(i + 1), m, _, _, _, _, _, _, _, _, _, _, _, _, _, _, _, _, _, _, _, _, _, _, _, _⟩ (by (try dsimp only); exact ⟨⟨by omega, by omega, cnt_no (by omega) b3 (by show (decide ((L[i]!).1 ≤ x) && decide (x ≤ (L[i]!).2)) = false; rw [h2, h3]; rfl)⟩, by omega⟩) rfl List.Sublist.slnil
   ·
    skip
    have p3 : x ≤ (L[i]!).2 := of_decide_eq_true h3
    refine wc_true rfl ?_
    refine wc_region ?_
    refine wl_val (.int .i64 (m : Int)) rfl (fun _ => rfl) ?_
    simp only [Act.put, Xa, Xz, Xs]
    refine wl_val (.int .i64 ((m : Int) + 1)) rfl (fun w => run_arith (op := .add) rfl rfl rfl Try.underlying3 (congrArg some (i64_in (by omega) (by omega))) w) ?_
    simp only [Act.put, Xa, Xz, Xs]
    refine wl_val (.int .i64 ((m : Int) + 1)) rfl (fun _ => rfl) ?_
    simp only [Act.put, Xa, Xz, Xs]
    refine wl_nil ?_
    refine we_in ?_
    refine we_then ?_
    refine wc_region ?_
    refine wl_val (.int .i64 (i : Int)) rfl (fun _ => rfl) ?_
    simp only [Act.put, Xa, Xz, Xs]
    refine wl_val (.int .i64 ((i : Int) + 1)) rfl (fun w => run_arith (op := .add) rfl rfl rfl Try.underlying3 (congrArg some (i64_in (by omega) (by omega))) w) ?_
    simp only [Act.put, Xa, Xz, Xs]
    refine wl_val (.int .i64 ((i : Int) + 1)) rfl (fun _ => rfl) ?_
    simp only [Act.put, Xa, Xz, Xs]
    refine wl_nil ?_
    exact we_meet ⟨(i + 1), (m + 1), _, _, _, _, _, _, _, _, _, _, _, _, _, _, _, _, _, _, _, _, _, _, _, _⟩ (by (try dsimp only); exact ⟨⟨by omega, by omega, cnt_yes (by omega) b3 (by show (decide ((L[i]!).1 ≤ x) && decide (x ≤ (L[i]!).2)) = true; rw [h2, h3]; rfl)⟩, by omega⟩) rfl List.Sublist.slnil
set_option maxHeartbeats 2000000 in
theorem by_any (L : Spans) (p : Option Addr) (c : Nat) (k : Int) (w : World) (hL : Reads w p (flat enc2 L)) (hn : L.length ≤ 1000000) :
  Calls Try.prog 23 #[.slice p L.length c, .int .i64 k] w fun e w' => e = .returned (.tuple #[.agg #[.int .i64 (byF L k).1, .int .i64 (byF L k).2.1], .bool (byF L k).2.2]) ∧ Below w.heap.size w w' := by
 refine calls_sx Try.func23 rfl ?_
 simp only [Try.ntmps23, List.size_toArray, List.length_cons, List.length_nil, Nat.reduceAdd, Nat.reduceSub, Array.replicate_succ, Array.replicate_zero, List.push_toArray, List.append_toArray, List.nil_append, List.cons_append]
 refine wc_seq ?_
 refine wc_region ?_
 refine wl_new 28 (#[.int .i64 0, .int .i64 0]) rfl (fun _ => by go_simp) ?_
 intro g1
 simp only [Act.put, Xa, Xz, Xs]
 refine wl_val (.bool false) rfl (fun _ => rfl) ?_
 simp only [Act.put, Xa, Xz, Xs]
 refine wl_nil ?_
 refine we_then ?_
 refine wc_seq ?_
 refine wc_region ?_
 refine wl_new 28 (#[.int .i64 0, .int .i64 0]) rfl (fun _ => by go_simp) ?_
 intro g2
 simp only [Act.put, Xa, Xz, Xs]
 refine wl_nil ?_
 refine we_then ?_
 refine wc_seq ?_
 refine wc_region ?_
 refine wl_val (.bool false) rfl (fun _ => rfl) ?_
 simp only [Act.put, Xa, Xz, Xs]
 refine wl_nil ?_
 refine we_then ?_
 refine wc_seq ?_
 refine wc_seq ?_
 refine wc_region ?_
 refine wl_val (.int .i64 0) rfl (fun _ => rfl) ?_
 simp only [Act.put, Xa, Xz, Xs]
 refine wl_nil ?_
 refine we_then ?_
 refine wc_block ?_
 refine wc_loop (fun (zz : Nat × Bool × Int × Value × Value × Value × Value × Value × Value × Value × Value × Value × Value × Value × Value × Value × Value × Value × Value × Value × Value × Value × Value × Value × Value × Value × Value × Value × Value × Value × Value × Value × Value × Value × Value × Value × Value × Value) => match zz with | ⟨i, f, lo, u11, u12, u13, u14, u15, u16, u17, u18, u19, u20, u21, u22, u23, u24, u25, u26, u27, u28, u29, u30, u31, u32, u33, u34, u35, u36, u37, u38, u39, u40, u41, u42, u43, u44, u45⟩ => ({ tmps := #[.slice p L.length c, .int .i64 k, undef, undef, .pointer (some ⟨g1, 0, none⟩), .bool false, .pointer (some ⟨g2, 0, none⟩), .bool f, .int .i64 (i : Int), undef, undef, u11, u12, u13, u14, u15, u16, u17, u18, u19, u20, u21, u22, u23, u24, u25, u26, u27, u28, u29, u30, u31, u32, u33, u34, u35, u36, u37, u38, u39, u40, u41, u42, u43, u44, u45, undef, undef, undef, undef, undef, undef, undef, undef, undef, undef, undef, undef, undef, undef, undef, undef, undef, undef, undef, undef, undef, undef, undef, undef, undef, undef, undef, undef, undef, undef, undef, undef, undef, undef, undef, undef, undef, undef, undef, undef], defers := [] } : Act)) (fun (zz : Nat × Bool × Int × Value × Value × Value × Value × Value × Value × Value × Value × Value × Value × Value × Value × Value × Value × Value × Value × Value × Value × Value × Value × Value × Value × Value × Value × Value × Value × Value × Value × Value × Value × Value × Value × Value × Value × Value) => match zz with | ⟨i, f, lo, u11, u12, u13, u14, u15, u16, u17, u18, u19, u20, u21, u22, u23, u24, u25, u26, u27, u28, u29, u30, u31, u32, u33, u34, u35, u36, u37, u38, u39, u40, u41, u42, u43, u44, u45⟩ => [⟨g2, #[.int .i64 lo, .int .i64 0], 28⟩, ⟨g1, #[.int .i64 0, .int .i64 0], 28⟩]) (fun (zz : Nat × Bool × Int × Value × Value × Value × Value × Value × Value × Value × Value × Value × Value × Value × Value × Value × Value × Value × Value × Value × Value × Value × Value × Value × Value × Value × Value × Value × Value × Value × Value × Value × Value × Value × Value × Value × Value × Value) => match zz with | ⟨i, f, lo, u11, u12, u13, u14, u15, u16, u17, u18, u19, u20, u21, u22, u23, u24, u25, u26, u27, u28, u29, u30, u31, u32, u33, u34, u35, u36, u37, u38, u39, u40, u41, u42, u43, u44, u45⟩ => i ≤ L.length ∧ lowS L k i = (f, lo)) (fun (zz : Nat × Bool × Int × Value × Value × Value × Value × Value × Value × Value × Value × Value × Value × Value × Value × Value × Value × Value × Value × Value × Value × Value × Value × Value × Value × Value × Value × Value × Value × Value × Value × Value × Value × Value × Value × Value × Value × Value) => match zz with | ⟨i, f, lo, u11, u12, u13, u14, u15, u16, u17, u18, u19, u20, u21, u22, u23, u24, u25, u26, u27, u28, u29, u30, u31, u32, u33, u34, u35, u36, u37, u38, u39, u40, u41, u42, u43, u44, u45⟩ => L.length - i) ⟨0, false, 0, _, _, _, _, _, _, _, _, _, _, _, _, _, _, _, _, _, _, _, _, _, _, _, _, _, _, _, _, _, _, _, _, _, _, _⟩ (by (try dsimp only); exact ⟨by omega, rfl⟩) rfl (List.Sublist.cons_cons _ (List.Sublist.cons_cons _ List.Sublist.slnil)) ?_
 rintro ⟨i, f, lo, u11, u12, u13, u14, u15, u16, u17, u18, u19, u20, u21, u22, u23, u24, u25, u26, u27, u28, u29, u30, u31, u32, u33, u34, u35, u36, u37, u38, u39, u40, u41, u42, u43, u44, u45⟩ hφ
 (try dsimp only at hφ ⊢)
 obtain ⟨b1, b2⟩ := hφ
 refine wc_seq ?_
 refine wc_seq ?_
 refine wc_region ?_
 refine wl_val (.int .i64 (i : Int)) rfl (fun _ => rfl) ?_
 simp only [Act.put, Xa, Xz, Xs]
 refine wl_val (.slice p L.length c) rfl (fun _ => rfl) ?_
 simp only [Act.put, Xa, Xz, Xs]
 refine wl_val (.int .i64 (L.length : Int)) rfl (fun w => er_len rfl rfl Try.underlying54 w) ?_
 simp only [Act.put, Xa, Xz, Xs]
 refine wl_val (.bool (decide ((i : Int) < (L.length : Int)))) rfl (fun w => run_cmp rfl rfl rfl Try.underlying3 rfl w) ?_
 simp only [Act.put, Xa, Xz, Xs]
 refine wl_nil ?_
 refine we_then ?_
 cases h3 : (decide ((i : Int) < (L.length : Int)))
 ·
  skip
  have p3 : ¬ ((i : Int) < (L.length : Int)) := of_decide_eq_false h3
  refine wc_false rfl ?_
  refine wc_exit ?_
  refine we_then_exit ?_
  refine we_then_exit ?_
  refine we_in_here ?_
  refine we_then ?_
  refine wc_seq ?_
  refine wc_region ?_
  refine wl_val (.bool false) rfl (fun _ => rfl) ?_
  simp only [Act.put, Xa, Xz, Xs]
  refine wl_nil ?_
  refine we_then ?_
  refine wc_seq ?_
  refine wc_seq ?_
  refine wc_region ?_
  refine wl_val (.int .i64 0) rfl (fun _ => rfl) ?_
  simp only [Act.put, Xa, Xz, Xs]
  refine wl_nil ?_
  refine we_then ?_
  refine wc_block ?_
  refine wc_loop (fun (zz : Nat × Bool × Int × Value × Value × Value × Value × Value × Value × Value × Value × Value × Value × Value × Value × Value × Value × Value × Value × Value × Value × Value × Value × Value × Value × Value × Value × Value × Value × Value × Value × Value × Value × Value × Value × Value × Value × Value) => match zz with | ⟨j, q, hi, u46, u47, u48, u49, u50, u51, u52, u53, u54, u55, u56, u57, u58, u59, u60, u61, u62, u63, u64, u65, u66, u67, u68, u69, u70, u71, u72, u73, u74, u75, u76, u77, u78, u79, u80⟩ => ({ tmps := #[.slice p L.length c, .int .i64 k, undef, undef, .pointer (some ⟨g1, 0, none⟩), .bool false, .pointer (some ⟨g2, 0, none⟩), .bool f, .int .i64 (i : Int), .bool q, .int .i64 (j : Int), .int .i64 (i : Int), .slice p L.length c, .int .i64 (L.length : Int), .bool false, u15, u16, u17, u18, u19, u20, u21, u22, u23, u24, u25, u26, u27, u28, u29, u30, u31, u32, u33, u34, u35, u36, u37, u38, u39, u40, u41, u42, u43, u44, u45, u46, u47, u48, u49, u50, u51, u52, u53, u54, u55, u56, u57, u58, u59, u60, u61, u62, u63, u64, u65, u66, u67, u68, u69, u70, u71, u72, u73, u74, u75, u76, u77, u78, u79, u80, undef, undef, undef, undef, undef], defers := [] } : Act)) (fun (zz : Nat × Bool × Int × Value × Value × Value × Value × Value × Value × Value × Value × Value × Value × Value × Value × Value × Value × Value × Value × Value × Value × Value × Value × Value × Value × Value × Value × Value × Value × Value × Value × Value × Value × Value × Value × Value × Value × Value) => match zz with | ⟨j, q, hi, u46, u47, u48, u49, u50, u51, u52, u53, u54, u55, u56, u57, u58, u59, u60, u61, u62, u63, u64, u65, u66, u67, u68, u69, u70, u71, u72, u73, u74, u75, u76, u77, u78, u79, u80⟩ => [⟨g2, #[.int .i64 lo, .int .i64 hi], 28⟩, ⟨g1, #[.int .i64 0, .int .i64 0], 28⟩]) (fun (zz : Nat × Bool × Int × Value × Value × Value × Value × Value × Value × Value × Value × Value × Value × Value × Value × Value × Value × Value × Value × Value × Value × Value × Value × Value × Value × Value × Value × Value × Value × Value × Value × Value × Value × Value × Value × Value × Value × Value) => match zz with | ⟨j, q, hi, u46, u47, u48, u49, u50, u51, u52, u53, u54, u55, u56, u57, u58, u59, u60, u61, u62, u63, u64, u65, u66, u67, u68, u69, u70, u71, u72, u73, u74, u75, u76, u77, u78, u79, u80⟩ => j ≤ L.length ∧ highS L k j = (q, hi)) (fun (zz : Nat × Bool × Int × Value × Value × Value × Value × Value × Value × Value × Value × Value × Value × Value × Value × Value × Value × Value × Value × Value × Value × Value × Value × Value × Value × Value × Value × Value × Value × Value × Value × Value × Value × Value × Value × Value × Value × Value) => match zz with | ⟨j, q, hi, u46, u47, u48, u49, u50, u51, u52, u53, u54, u55, u56, u57, u58, u59, u60, u61, u62, u63, u64, u65, u66, u67, u68, u69, u70, u71, u72, u73, u74, u75, u76, u77, u78, u79, u80⟩ => L.length - j) ⟨0, false, 0, _, _, _, _, _, _, _, _, _, _, _, _, _, _, _, _, _, _, _, _, _, _, _, _, _, _, _, _, _, _, _, _, _, _, _⟩ (by (try dsimp only); exact ⟨by omega, rfl⟩) rfl (List.Sublist.cons_cons _ (List.Sublist.cons_cons _ List.Sublist.slnil)) ?_
  rintro ⟨j, q, hi, u46, u47, u48, u49, u50, u51, u52, u53, u54, u55, u56, u57, u58, u59, u60, u61, u62, u63, u64, u65, u66, u67, u68, u69, u70, u71, u72, u73, u74, u75, u76, u77, u78, u79, u80⟩ hφ
  (try dsimp only at hφ ⊢)
  obtain ⟨c1, c2⟩ := hφ
  refine wc_seq ?_
  refine wc_seq ?_
  refine wc_region ?_
  refine wl_val (.int .i64 (j : Int)) rfl (fun _ => rfl) ?_
  simp only [Act.put, Xa, Xz, Xs]
  refine wl_val (.slice p L.length c) rfl (fun _ => rfl) ?_
  simp only [Act.put, Xa, Xz, Xs]
  refine wl_val (.int .i64 (L.length : Int)) rfl (fun w => er_len rfl rfl Try.underlying54 w) ?_
  simp only [Act.put, Xa, Xz, Xs]
  refine wl_val (.bool (decide ((j : Int) < (L.length : Int)))) rfl (fun w => run_cmp rfl rfl rfl Try.underlying3 rfl w) ?_
  simp only [Act.put, Xa, Xz, Xs]
  refine wl_nil ?_
  refine we_then ?_
  cases h4 : (decide ((j : Int) < (L.length : Int)))
  ·
   skip
   have p4 : ¬ ((j : Int) < (L.length : Int)) := of_decide_eq_false h4
   refine wc_false rfl ?_
   refine wc_exit ?_
   refine we_then_exit ?_
   refine we_then_exit ?_
   refine we_in_here ?_
   refine we_then ?_
   refine wc_seq ?_
   refine wc_region ?_
   refine wl_load 28 (.tmp 6) (own_row 0 rfl) rfl rfl rfl Try.underlying28 rfl (by kernel_rfl) ?_
   simp only [Act.put, Xa, Xz, Xs]
   refine wl_val (.bool f) rfl (fun _ => rfl) ?_
   simp only [Act.put, Xa, Xz, Xs]
   refine wl_val (.bool f) rfl (fun _ => rfl) ?_
   simp only [Act.put, Xa, Xz, Xs]
   cases h5 : (f)
   ·
    skip
    refine wl_skip rfl ?_
    simp only [Act.put, Xa, Xz, Xs]
    refine wl_val (.bool false) rfl (fun _ => rfl) ?_
    simp only [Act.put, Xa, Xz, Xs]
    refine wl_store 1 28 (.tmp 4) (.tmp 81) (#[.int .i64 lo, .int .i64 hi]) rfl rfl rfl rfl rfl (by kernel_rfl) rfl (by simp [Value.oneCell']) ?_
    simp only [Act.put, List.set_cons_zero, List.set_cons_succ]
    refine wl_val (.bool false) rfl (fun _ => rfl) ?_
    simp only [Act.put, Xa, Xz, Xs]
    refine wl_nil ?_
    refine we_then ?_
    refine wc_ret ?_
    refine we_ret_cell_tmp (.bool false) (own_row 1 rfl) rfl rfl rfl rfl Try.underlying28 rfl (by kernel_rfl) (fun w1 hE => ?_)
    have e1 : i = L.length := by omega
    have e2 : j = L.length := by omega
    rw [e1, h5] at b2
    rw [e2] at c2
    exact ⟨by unfold byF; rw [b2, c2]; rfl, hE.below⟩
   ·
    skip
    refine wl_val (.bool q) rfl (fun _ => rfl) ?_
    simp only [Act.put, Xa, Xz, Xs]
    refine wl_val (.bool q) rfl (fun _ => rfl) ?_
    simp only [Act.put, Xa, Xz, Xs]
    refine wl_store 1 28 (.tmp 4) (.tmp 81) (#[.int .i64 lo, .int .i64 hi]) rfl rfl rfl rfl rfl (by kernel_rfl) rfl (by simp [Value.oneCell']) ?_
    simp only [Act.put, List.set_cons_zero, List.set_cons_succ]
    refine wl_val (.bool q) rfl (fun _ => rfl) ?_
    simp only [Act.put, Xa, Xz, Xs]
    refine wl_nil ?_
    refine we_then ?_
    refine wc_ret ?_
    refine we_ret_cell_tmp (.bool q) (own_row 1 rfl) rfl rfl rfl rfl Try.underlying28 rfl (by kernel_rfl) (fun w1 hE => ?_)
    have e1 : i = L.length := by omega
    have e2 : j = L.length := by omega
    rw [e1, h5] at b2
    rw [e2] at c2
    exact ⟨by unfold byF; rw [b2, c2]; rfl, hE.below⟩
  ·
   skip
   have p4 : (j : Int) < (L.length : Int) := of_decide_eq_true h4
   refine wc_true rfl ?_
   refine wc_skip ?_
   refine we_then ?_
   refine wc_seq ?_
   refine wc_block ?_
   refine wc_seq ?_
   refine wc_draw [.late, .late, .late, .plain, .plain, .plain, .plain, .late, .late, .late, .late, .late, .late, .late, .late, .plain, .plain, .plain, .late, .plain, .late, .late, .late] none [] 86 (by kernel_rfl) rfl (by kernel_rfl) (by kernel_rfl) ?_
   refine ws_late (.slice p L.length c) rfl rfl (fun _ => rfl) ?_
   simp only [Nat.reduceAdd, Act.put, Xa, Xz, Xs]
   refine ws_late (.slice p L.length c) rfl rfl (fun _ => rfl) ?_
   simp only [Nat.reduceAdd, Act.put, Xa, Xz, Xs]
   refine ws_late (.int .i64 (j : Int)) rfl rfl (fun _ => rfl) ?_
   simp only [Nat.reduceAdd, Act.put, Xa, Xz, Xs]
   refine ws_read (eaddr p (j * 2)) rfl rfl (er_index j 2 (sl_old hL) rfl rfl rfl rfl (by omega) (flat_length (enc := enc2) (size := 2) (fun _ => rfl) _) (by decide) Try.underlying54 (by kernel_rfl)) ?_
   simp only [Nat.reduceAdd, Act.put, Xa, Xz, Xs]
   refine ws_read (eaddr p (j * 2 + 1)) rfl rfl (er_field (z := 0) (j * 2) 1 1 (sl_old hL) rfl rfl (flat_lt (enc := enc2) (fun _ => rfl) L j 0 (by omega) (by decide)) Try.underlying28 rfl rfl (by kernel_rfl)) ?_
   simp only [Nat.reduceAdd, Act.put, Xa, Xz, Xs]
   refine ws_read (.int .i64 ((L[j]!).2)) rfl rfl (er_cell (j * 2 + 1) (.int .i64 ((L[j]!).2)) (sl_old hL) rfl rfl (flat_cell (enc := enc2) (fun _ => rfl) L j 1 (by omega) (by decide)) Try.isAgg2) ?_
   simp only [Nat.reduceAdd, Act.put, Xa, Xz, Xs]
   refine ws_call_at 33 #[.slice p L.length c, .int .i64 ((L[j]!).2)] (.int .i64 (cnt L ((L[j]!).2) : Int)) rfl rfl (fun _ => by go_simp) (fun W hE => many_any L p c ((L[j]!).2) W (sl_old (R := []) hL W (hE.sub (List.nil_sublist _))) hn) ?_
   simp only [Nat.reduceAdd, Act.put, Xa, Xz, Xs]
   refine ws_late (.int .i64 k) rfl rfl (fun _ => rfl) ?_
   simp only [Nat.reduceAdd, Act.put, Xa, Xz, Xs]
   refine ws_late (.bool (decide (k ≤ (cnt L ((L[j]!).2) : Int)))) rfl rfl (fun w => run_cmp rfl rfl rfl Try.underlying3 rfl w) ?_
   simp only [Nat.reduceAdd, Act.put, Xa, Xz, Xs]
   refine ws_late (.bool (decide (k ≤ (cnt L ((L[j]!).2) : Int)))) rfl rfl (fun _ => rfl) ?_
   simp only [Nat.reduceAdd, Act.put, Xa, Xz, Xs]
   cases h6 : (decide (k ≤ (cnt L ((L[j]!).2) : Int)))
   ·
    skip
    have p6 : ¬ (k ≤ (cnt L ((L[j]!).2) : Int)) := of_decide_eq_false h6
    refine ws_skip_late rfl rfl ?_
    simp only [Nat.reduceAdd, Act.put, Xa, Xz, Xs]
    refine ws_skip_late rfl rfl ?_
    simp only [Nat.reduceAdd, Act.put, Xa, Xz, Xs]
    refine ws_skip_late rfl rfl ?_
    simp only [Nat.reduceAdd, Act.put, Xa, Xz, Xs]
    refine ws_skip_late rfl rfl ?_
    simp only [Nat.reduceAdd, Act.put, Xa, Xz, Xs]
    refine ws_skip_late rfl rfl ?_
    simp only [Nat.reduceAdd, Act.put, Xa, Xz, Xs]
    refine ws_skip rfl rfl ?_
    simp only [Nat.reduceAdd, Act.put, Xa, Xz, Xs]
    refine ws_skip rfl rfl ?_
    simp only [Nat.reduceAdd, Act.put, Xa, Xz, Xs]
    refine ws_skip rfl rfl ?_
    simp only [Nat.reduceAdd, Act.put, Xa, Xz, Xs]
    refine ws_skip_late rfl rfl ?_
    simp only [Nat.reduceAdd, Act.put, Xa, Xz, Xs]
    refine ws_skip rfl rfl ?_
    simp only [Nat.reduceAdd, Act.put, Xa, Xz, Xs]
    refine ws_skip_late rfl rfl ?_
    simp only [Nat.reduceAdd, Act.put, Xa, Xz, Xs]
    refine ws_skip_late rfl rfl ?_
    simp only [Nat.reduceAdd, Act.put, Xa, Xz, Xs]
    refine ws_late (.bool false) rfl rfl (fun _ => rfl) ?_
    simp only [Nat.reduceAdd, Act.put, Xa, Xz, Xs]
    refine ws_nil [] trivial (by simp) ?_
    intro ps7
    simp only [fin, List.foldl_nil, List.map, List.nil_append]
    refine we_then ?_
    refine wc_false rfl ?_
    refine wc_skip ?_
    refine we_in ?_
    refine we_then ?_
    refine wc_region ?_
    refine wl_val (.int .i64 (j : Int)) rfl (fun _ => rfl) ?_
    simp only [Act.put, Xa, Xz, Xs]
    refine wl_val (.int .i64 ((j : Int) + 1)) rfl (fun w => run_arith (op := .add) rfl rfl rfl Try.underlying3 (congrArg some (i64_in (by omega) (by omega))) w) ?_
    simp only [Act.put, Xa, Xz, Xs]
    refine wl_val (.int .i64 ((j : Int) + 1)) rfl (fun _ => rfl) ?_
    simp only [Act.put, Xa, Xz, Xs]
    refine wl_nil ?_
    exact we_meet ⟨(j + 1), q, hi, _, _, _, _, _, _, _, _, _, _, _, _, _, _, _, _, _, _, _, _, _, _, _, _, _, _, _, _, _, _, _, _, _, _, _⟩ (by (try dsimp only); exact ⟨⟨by omega, high_no c2 (by show (decide (k ≤ (cnt L ((L[j]!).2) : Int)) && (!q || decide (hi < (L[j]!).2))) = false; rw [h6]; rfl)⟩, by omega⟩) rfl (List.Sublist.cons_cons _ (List.Sublist.cons_cons _ List.Sublist.slnil))
   ·
    skip
    have p6 : k ≤ (cnt L ((L[j]!).2) : Int) := of_decide_eq_true h6
    refine ws_late (.bool q) rfl rfl (fun _ => rfl) ?_
    simp only [Nat.reduceAdd, Act.put, Xa, Xz, Xs]
    refine ws_late (.bool (!q)) rfl rfl (fun _ => by go_simp) ?_
    simp only [Nat.reduceAdd, Act.put, Xa, Xz, Xs]
    refine ws_late (.bool (!q)) rfl rfl (fun _ => rfl) ?_
    simp only [Nat.reduceAdd, Act.put, Xa, Xz, Xs]
    cases h8 : (q)
    ·
     skip
     refine ws_skip_late rfl rfl ?_
     simp only [Nat.reduceAdd, Act.put, Xa, Xz, Xs]
     refine ws_skip_late rfl rfl ?_
     simp only [Nat.reduceAdd, Act.put, Xa, Xz, Xs]
     refine ws_skip rfl rfl ?_
     simp only [Nat.reduceAdd, Act.put, Xa, Xz, Xs]
     refine ws_skip rfl rfl ?_
     simp only [Nat.reduceAdd, Act.put, Xa, Xz, Xs]
     refine ws_skip rfl rfl ?_
     simp only [Nat.reduceAdd, Act.put, Xa, Xz, Xs]
     refine ws_skip_late rfl rfl ?_
     simp only [Nat.reduceAdd, Act.put, Xa, Xz, Xs]
     refine ws_skip rfl rfl ?_
     simp only [Nat.reduceAdd, Act.put, Xa, Xz, Xs]
     refine ws_skip_late rfl rfl ?_
     simp only [Nat.reduceAdd, Act.put, Xa, Xz, Xs]
     refine ws_late (.bool true) rfl rfl (fun _ => rfl) ?_
     simp only [Nat.reduceAdd, Act.put, Xa, Xz, Xs]
     refine ws_late (.bool true) rfl rfl (fun _ => rfl) ?_
     simp only [Nat.reduceAdd, Act.put, Xa, Xz, Xs]
     refine ws_nil [] trivial (by simp) ?_
     intro ps9
     simp only [fin, List.foldl_nil, List.map, List.nil_append]
     refine we_then ?_
     refine wc_true rfl ?_
     refine wc_seq ?_
     refine wc_region ?_
     refine wl_val (.slice p L.length c) rfl (fun _ => rfl) ?_
     simp only [Act.put, Xa, Xz, Xs]
     refine wl_val (.int .i64 (j : Int)) rfl (fun _ => rfl) ?_
     simp only [Act.put, Xa, Xz, Xs]
     refine wl_read (eaddr p (j * 2)) rfl (er_index j 2 (sl_old hL) rfl rfl rfl rfl (by omega) (flat_length (enc := enc2) (size := 2) (fun _ => rfl) _) (by decide) Try.underlying54 (by kernel_rfl)) ?_
     simp only [Act.put, Xa, Xz, Xs]
     refine wl_read (eaddr p (j * 2 + 1)) rfl (er_field (z := 0) (j * 2) 1 1 (sl_old hL) rfl rfl (flat_lt (enc := enc2) (fun _ => rfl) L j 0 (by omega) (by decide)) Try.underlying28 rfl rfl (by kernel_rfl)) ?_
     simp only [Act.put, Xa, Xz, Xs]
     refine wl_read (.int .i64 ((L[j]!).2)) rfl (er_cell (j * 2 + 1) (.int .i64 ((L[j]!).2)) (sl_old hL) rfl rfl (flat_cell (enc := enc2) (fun _ => rfl) L j 1 (by omega) (by decide)) Try.isAgg2) ?_
     simp only [Act.put, Xa, Xz, Xs]
     refine wl_val (.pointer (some ⟨g2, 1, none⟩)) rfl (fun _ => by go_simp) ?_
     simp only [Act.put, Xa, Xz, Xs]
     refine wl_store_cell 0 2 (.tmp 80) (.tmp 79) (.int .i64 hi) (.int .i64 ((L[j]!).2)) rfl rfl rfl rfl rfl rfl (by kernel_rfl) rfl ?_
     simp only [Act.put, List.set_cons_zero]
     refine wl_nil ?_
     refine we_then ?_
     refine wc_region ?_
     refine wl_val (.bool true) rfl (fun _ => rfl) ?_
     simp only [Act.put, Xa, Xz, Xs]
     refine wl_nil ?_
     refine we_in ?_
     refine we_then ?_
     refine wc_region ?_
     refine wl_val (.int .i64 (j : Int)) rfl (fun _ => rfl) ?_
     simp only [Act.put, Xa, Xz, Xs]
     refine wl_val (.int .i64 ((j : Int) + 1)) rfl (fun w => run_arith (op := .add) rfl rfl rfl Try.underlying3 (congrArg some (i64_in (by omega) (by omega))) w) ?_
     simp only [Act.put, Xa, Xz, Xs]
     refine wl_val (.int .i64 ((j : Int) + 1)) rfl (fun _ => rfl) ?_
     simp only [Act.put, Xa, Xz, Xs]
     refine wl_nil ?_
     exact we_meet ⟨(j + 1), true, (L[j]!).2, _, _, _, _, _, _, _, _, _, _, _, _, _, _, _, _, _, _, _, _, _, _, _, _, _, _, _, _, _, _, _, _, _, _, _⟩ (by (try dsimp only); rw [h8] at c2; exact ⟨⟨by omega, high_yes c2 (by show (decide (k ≤ (cnt L ((L[j]!).2) : Int)) && (!false || decide (hi < (L[j]!).2))) = true; rw [h6]; rfl)⟩, by omega⟩) rfl (List.Sublist.cons_cons _ (List.Sublist.cons_cons _ List.Sublist.slnil))
    ·
     skip
     refine ws_late (.slice p L.length c) rfl rfl (fun _ => rfl) ?_
     simp only [Nat.reduceAdd, Act.put, Xa, Xz, Xs]
     refine ws_late (.int .i64 (j : Int)) rfl rfl (fun _ => rfl) ?_
     simp only [Nat.reduceAdd, Act.put, Xa, Xz, Xs]
     refine ws_read (eaddr p (j * 2)) rfl rfl (er_index j 2 (sl_old hL) rfl rfl rfl rfl (by omega) (flat_length (enc := enc2) (size := 2) (fun _ => rfl) _) (by decide) Try.underlying54 (by kernel_rfl)) ?_
     simp only [Nat.reduceAdd, Act.put, Xa, Xz, Xs]
     refine ws_read (eaddr p (j * 2 + 1)) rfl rfl (er_field (z := 0) (j * 2) 1 1 (sl_old hL) rfl rfl (flat_lt (enc := enc2) (fun _ => rfl) L j 0 (by omega) (by decide)) Try.underlying28 rfl rfl (by kernel_rfl)) ?_
     simp only [Nat.reduceAdd, Act.put, Xa, Xz, Xs]
     refine ws_read (.int .i64 ((L[j]!).2)) rfl rfl (er_cell (j * 2 + 1) (.int .i64 ((L[j]!).2)) (sl_old hL) rfl rfl (flat_cell (enc := enc2) (fun _ => rfl) L j 1 (by omega) (by decide)) Try.isAgg2) ?_
     simp only [Nat.reduceAdd, Act.put, Xa, Xz, Xs]
     refine ws_late (.pointer (some ⟨g2, 1, none⟩)) rfl rfl (fun _ => by go_simp) ?_
     simp only [Nat.reduceAdd, Act.put, Xa, Xz, Xs]
     refine ws_cell 2 (.tmp 70) (.int .i64 hi) (own_row 0 rfl) rfl rfl rfl rfl rfl Try.isAgg2 ?_
     simp only [Nat.reduceAdd, Act.put, Xa, Xz, Xs]
     refine ws_late (.bool (decide (hi < (L[j]!).2))) rfl rfl (fun w => run_cmp rfl rfl rfl Try.underlying2 rfl w) ?_
     simp only [Nat.reduceAdd, Act.put, Xa, Xz, Xs]
     refine ws_late (.bool (decide (hi < (L[j]!).2))) rfl rfl (fun _ => rfl) ?_
     simp only [Nat.reduceAdd, Act.put, Xa, Xz, Xs]
     refine ws_late (.bool (decide (hi < (L[j]!).2))) rfl rfl (fun _ => rfl) ?_
     simp only [Nat.reduceAdd, Act.put, Xa, Xz, Xs]
     refine ws_nil [] trivial (by simp) ?_
     intro ps10
     simp only [fin, List.foldl_nil, List.map, List.nil_append]
     refine we_then ?_
     cases h11 : (decide (hi < (L[j]!).2))
     ·
      skip
      have p11 : ¬ (hi < (L[j]!).2) := of_decide_eq_false h11
      refine wc_false rfl ?_
      refine wc_skip ?_
      refine we_in ?_
      refine we_then ?_
      refine wc_region ?_
      refine wl_val (.int .i64 (j : Int)) rfl (fun _ => rfl) ?_
      simp only [Act.put, Xa, Xz, Xs]
      refine wl_val (.int .i64 ((j : Int) + 1)) rfl (fun w => run_arith (op := .add) rfl rfl rfl Try.underlying3 (congrArg some (i64_in (by omega) (by omega))) w) ?_
      simp only [Act.put, Xa, Xz, Xs]
      refine wl_val (.int .i64 ((j : Int) + 1)) rfl (fun _ => rfl) ?_
      simp only [Act.put, Xa, Xz, Xs]
      refine wl_nil ?_
      exact we_meet ⟨(j + 1), true, hi, _, _, _, _, _, _, _, _, _, _, _, _, _, _, _, _, _, _, _, _, _, _, _, _, _, _, _, _, _, _, _, _, _, _, _⟩ (by (try dsimp only); rw [h8] at c2; exact ⟨⟨by omega, high_no c2 (by show (decide (k ≤ (cnt L ((L[j]!).2) : Int)) && (!true || decide (hi < (L[j]!).2))) = false; rw [h6, h11]; rfl)⟩, by omega⟩) rfl (List.Sublist.cons_cons _ (List.Sublist.cons_cons _ List.Sublist.slnil))
     ·
      skip
      have p11 : hi < (L[j]!).2 := of_decide_eq_true h11
      refine wc_true rfl ?_
      refine wc_seq ?_
      refine wc_region ?_
      refine wl_val (.slice p L.length c) rfl (fun _ => rfl) ?_
      simp only [Act.put, Xa, Xz, Xs]
      refine wl_val (.int .i64 (j : Int)) rfl (fun _ => rfl) ?_
      simp only [Act.put, Xa, Xz, Xs]
      refine wl_read (eaddr p (j * 2)) rfl (er_index j 2 (sl_old hL) rfl rfl rfl rfl (by omega) (flat_length (enc := enc2) (size := 2) (fun _ => rfl) _) (by decide) Try.underlying54 (by kernel_rfl)) ?_
      simp only [Act.put, Xa, Xz, Xs]
      refine wl_read (eaddr p (j * 2 + 1)) rfl (er_field (z := 0) (j * 2) 1 1 (sl_old hL) rfl rfl (flat_lt (enc := enc2) (fun _ => rfl) L j 0 (by omega) (by decide)) Try.underlying28 rfl rfl (by kernel_rfl)) ?_
      simp only [Act.put, Xa, Xz, Xs]
      refine wl_read (.int .i64 ((L[j]!).2)) rfl (er_cell (j * 2 + 1) (.int .i64 ((L[j]!).2)) (sl_old hL) rfl rfl (flat_cell (enc := enc2) (fun _ => rfl) L j 1 (by omega) (by decide)) Try.isAgg2) ?_
      simp only [Act.put, Xa, Xz, Xs]
      refine wl_val (.pointer (some ⟨g2, 1, none⟩)) rfl (fun _ => by go_simp) ?_
      simp only [Act.put, Xa, Xz, Xs]
      refine wl_store_cell 0 2 (.tmp 80) (.tmp 79) (.int .i64 hi) (.int .i64 ((L[j]!).2)) rfl rfl rfl rfl rfl rfl (by kernel_rfl) rfl ?_
      simp only [Act.put, List.set_cons_zero]
      refine wl_nil ?_
      refine we_then ?_
      refine wc_region ?_
      refine wl_val (.bool true) rfl (fun _ => rfl) ?_
      simp only [Act.put, Xa, Xz, Xs]
      refine wl_nil ?_
      refine we_in ?_
      refine we_then ?_
      refine wc_region ?_
      refine wl_val (.int .i64 (j : Int)) rfl (fun _ => rfl) ?_
      simp only [Act.put, Xa, Xz, Xs]
      refine wl_val (.int .i64 ((j : Int) + 1)) rfl (fun w => run_arith (op := .add) rfl rfl rfl Try.underlying3 (congrArg some (i64_in (by omega) (by omega))) w) ?_
      simp only [Act.put, Xa, Xz, Xs]
      refine wl_val (.int .i64 ((j : Int) + 1)) rfl (fun _ => rfl) ?_
      simp only [Act.put, Xa, Xz, Xs]
      refine wl_nil ?_
      exact we_meet ⟨(j + 1), true, (L[j]!).2, _, _, _, _, _, _, _, _, _, _, _, _, _, _, _, _, _, _, _, _, _, _, _, _, _, _, _, _, _, _, _, _, _, _, _⟩ (by (try dsimp only); rw [h8] at c2; exact ⟨⟨by omega, high_yes c2 (by show (decide (k ≤ (cnt L ((L[j]!).2) : Int)) && (!true || decide (hi < (L[j]!).2))) = true; rw [h6, h11]; rfl)⟩, by omega⟩) rfl (List.Sublist.cons_cons _ (List.Sublist.cons_cons _ List.Sublist.slnil))
 ·
  skip
  have p3 : (i : Int) < (L.length : Int) := of_decide_eq_true h3
  refine wc_true rfl ?_
  refine wc_skip ?_
  refine we_then ?_
  refine wc_seq ?_
  refine wc_block ?_
  refine wc_seq ?_
  refine wc_draw [.late, .late, .late, .plain, .plain, .plain, .plain, .late, .late, .late, .late, .late, .late, .late, .late, .plain, .plain, .plain, .late, .plain, .late, .late, .late] none [] 86 (by kernel_rfl) rfl (by kernel_rfl) (by kernel_rfl) ?_
  refine ws_late (.slice p L.length c) rfl rfl (fun _ => rfl) ?_
  simp only [Nat.reduceAdd, Act.put, Xa, Xz, Xs]
  refine ws_late (.slice p L.length c) rfl rfl (fun _ => rfl) ?_
  simp only [Nat.reduceAdd, Act.put, Xa, Xz, Xs]
  refine ws_late (.int .i64 (i : Int)) rfl rfl (fun _ => rfl) ?_
  simp only [Nat.reduceAdd, Act.put, Xa, Xz, Xs]
  refine ws_read (eaddr p (i * 2)) rfl rfl (er_index i 2 (sl_old hL) rfl rfl rfl rfl (by omega) (flat_length (enc := enc2) (size := 2) (fun _ => rfl) _) (by decide) Try.underlying54 (by kernel_rfl)) ?_
  simp only [Nat.reduceAdd, Act.put, Xa, Xz, Xs]
  refine ws_read (eaddr p (i * 2 + 0)) rfl rfl (er_field (z := 0) (i * 2) 0 0 (sl_old hL) rfl rfl (flat_lt (enc := enc2) (fun _ => rfl) L i 0 (by omega) (by decide)) Try.underlying28 rfl rfl (by kernel_rfl)) ?_
  simp only [Nat.reduceAdd, Act.put, Xa, Xz, Xs]
  refine ws_read (.int .i64 ((L[i]!).1)) rfl rfl (er_cell (i * 2 + 0) (.int .i64 ((L[i]!).1)) (sl_old hL) rfl rfl (flat_cell (enc := enc2) (fun _ => rfl) L i 0 (by omega) (by decide)) Try.isAgg2) ?_
  simp only [Nat.reduceAdd, Act.put, Xa, Xz, Xs]
  refine ws_call_at 33 #[.slice p L.length c, .int .i64 ((L[i]!).1)] (.int .i64 (cnt L ((L[i]!).1) : Int)) rfl rfl (fun _ => by go_simp) (fun W hE => many_any L p c ((L[i]!).1) W (sl_old (R := []) hL W (hE.sub (List.nil_sublist _))) hn) ?_
  simp only [Nat.reduceAdd, Act.put, Xa, Xz, Xs]
  refine ws_late (.int .i64 k) rfl rfl (fun _ => rfl) ?_
  simp only [Nat.reduceAdd, Act.put, Xa, Xz, Xs]
  refine ws_late (.bool (decide (k ≤ (cnt L ((L[i]!).1) : Int)))) rfl rfl (fun w => run_cmp rfl rfl rfl Try.underlying3 rfl w) ?_
  simp only [Nat.reduceAdd, Act.put, Xa, Xz, Xs]
  refine ws_late (.bool (decide (k ≤ (cnt L ((L[i]!).1) : Int)))) rfl rfl (fun _ => rfl) ?_
  simp only [Nat.reduceAdd, Act.put, Xa, Xz, Xs]
  cases h12 : (decide (k ≤ (cnt L ((L[i]!).1) : Int)))
  ·
   skip
   have p12 : ¬ (k ≤ (cnt L ((L[i]!).1) : Int)) := of_decide_eq_false h12
   refine ws_skip_late rfl rfl ?_
   simp only [Nat.reduceAdd, Act.put, Xa, Xz, Xs]
   refine ws_skip_late rfl rfl ?_
   simp only [Nat.reduceAdd, Act.put, Xa, Xz, Xs]
   refine ws_skip_late rfl rfl ?_
   simp only [Nat.reduceAdd, Act.put, Xa, Xz, Xs]
   refine ws_skip_late rfl rfl ?_
   simp only [Nat.reduceAdd, Act.put, Xa, Xz, Xs]
   refine ws_skip_late rfl rfl ?_
   simp only [Nat.reduceAdd, Act.put, Xa, Xz, Xs]
   refine ws_skip rfl rfl ?_
   simp only [Nat.reduceAdd, Act.put, Xa, Xz, Xs]
   refine ws_skip rfl rfl ?_
   simp only [Nat.reduceAdd, Act.put, Xa, Xz, Xs]
   refine ws_skip rfl rfl ?_
   simp only [Nat.reduceAdd, Act.put, Xa, Xz, Xs]
   refine ws_skip_late rfl rfl ?_
   simp only [Nat.reduceAdd, Act.put, Xa, Xz, Xs]
   refine ws_skip rfl rfl ?_
   simp only [Nat.reduceAdd, Act.put, Xa, Xz, Xs]
   refine ws_skip_late rfl rfl ?_
   simp only [Nat.reduceAdd, Act.put, Xa, Xz, Xs]
   refine ws_skip_late rfl rfl ?_
   simp only [Nat.reduceAdd, Act.put, Xa, Xz, Xs]
   refine ws_late (.bool false) rfl rfl (fun _ => rfl) ?_
   simp only [Nat.reduceAdd, Act.put, Xa, Xz, Xs]
   refine ws_nil [] trivial (by simp) ?_
   intro ps13
   simp only [fin, List.foldl_nil, List.map, List.nil_append]
   refine we_then ?_
   refine wc_false rfl ?_
   refine wc_skip ?_
   refine we_in ?_
   refine we_then ?_
   refine wc_region ?_
   refine wl_val (.int .i64 (i : Int)) rfl (fun _ => rfl) ?_
   simp only [Act.put, Xa, Xz, Xs]
   refine wl_val (.int .i64 ((i : Int) + 1)) rfl (fun w => run_arith (op := .add) rfl rfl rfl Try.underlying3 (congrArg some (i64_in (by omega) (by omega))) w) ?_
   simp only [Act.put, Xa, Xz, Xs]
   refine wl_val (.int .i64 ((i : Int) + 1)) rfl (fun _ => rfl) ?_
   simp only [Act.put, Xa, Xz, Xs]
   refine wl_nil ?_
   exact we_meet ⟨(i + 1), f, lo, _, _, _, _, _, _, _, _, _, _, _, _, _, _, _, _, _, _, _, _, _, _, _, _, _, _, _, _, _, _, _, _, _, _, _⟩ (by (try dsimp only); exact ⟨⟨by omega, low_no b2 (by show (decide (k ≤ (cnt L ((L[i]!).1) : Int)) && (!f || decide ((L[i]!).1 < lo))) = false; rw [h12]; rfl)⟩, by omega⟩) rfl (List.Sublist.cons_cons _ (List.Sublist.cons_cons _ List.Sublist.slnil))
  ·
   skip
   have p12 : k ≤ (cnt L ((L[i]!).1) : Int) := of_decide_eq_true h12
   refine ws_late (.bool f) rfl rfl (fun _ => rfl) ?_
   simp only [Nat.reduceAdd, Act.put, Xa, Xz, Xs]
   refine ws_late (.bool (!f)) rfl rfl (fun _ => by go_simp) ?_
   simp only [Nat.reduceAdd, Act.put, Xa, Xz, Xs]
   refine ws_late (.bool (!f)) rfl rfl (fun _ => rfl) ?_
   simp only [Nat.reduceAdd, Act.put, Xa, Xz, Xs]
   cases h14 : (f)
   ·
    skip
    refine ws_skip_late rfl rfl ?_
    simp only [Nat.reduceAdd, Act.put, Xa, Xz, Xs]
    refine ws_skip_late rfl rfl ?_
    simp only [Nat.reduceAdd, Act.put, Xa, Xz, Xs]
    refine ws_skip rfl rfl ?_
    simp only [Nat.reduceAdd, Act.put, Xa, Xz, Xs]
    refine ws_skip rfl rfl ?_
    simp only [Nat.reduceAdd, Act.put, Xa, Xz, Xs]
    refine ws_skip rfl rfl ?_
    simp only [Nat.reduceAdd, Act.put, Xa, Xz, Xs]
    refine ws_skip_late rfl rfl ?_
    simp only [Nat.reduceAdd, Act.put, Xa, Xz, Xs]
    refine ws_skip rfl rfl ?_
    simp only [Nat.reduceAdd, Act.put, Xa, Xz, Xs]
    refine ws_skip_late rfl rfl ?_
    simp only [Nat.reduceAdd, Act.put, Xa, Xz, Xs]
    refine ws_late (.bool true) rfl rfl (fun _ => rfl) ?_
    simp only [Nat.reduceAdd, Act.put, Xa, Xz, Xs]
    refine ws_late (.bool true) rfl rfl (fun _ => rfl) ?_
    simp only [Nat.reduceAdd, Act.put, Xa, Xz, Xs]
    refine ws_nil [] trivial (by simp) ?_
    intro ps15
    simp only [fin, List.foldl_nil, List.map, List.nil_append]
    refine we_then ?_
    refine wc_true rfl ?_
    refine wc_seq ?_
    refine wc_region ?_
    refine wl_val (.slice p L.length c) rfl (fun _ => rfl) ?_
    simp only [Act.put, Xa, Xz, Xs]
    refine wl_val (.int .i64 (i : Int)) rfl (fun _ => rfl) ?_
    simp only [Act.put, Xa, Xz, Xs]
    refine wl_read (eaddr p (i * 2)) rfl (er_index i 2 (sl_old hL) rfl rfl rfl rfl (by omega) (flat_length (enc := enc2) (size := 2) (fun _ => rfl) _) (by decide) Try.underlying54 (by kernel_rfl)) ?_
    simp only [Act.put, Xa, Xz, Xs]
    refine wl_read (eaddr p (i * 2 + 0)) rfl (er_field (z := 0) (i * 2) 0 0 (sl_old hL) rfl rfl (flat_lt (enc := enc2) (fun _ => rfl) L i 0 (by omega) (by decide)) Try.underlying28 rfl rfl (by kernel_rfl)) ?_
    simp only [Act.put, Xa, Xz, Xs]
    refine wl_read (.int .i64 ((L[i]!).1)) rfl (er_cell (i * 2 + 0) (.int .i64 ((L[i]!).1)) (sl_old hL) rfl rfl (flat_cell (enc := enc2) (fun _ => rfl) L i 0 (by omega) (by decide)) Try.isAgg2) ?_
    simp only [Act.put, Xa, Xz, Xs]
    refine wl_val (.pointer (some ⟨g2, 0, none⟩)) rfl (fun _ => by go_simp) ?_
    simp only [Act.put, Xa, Xz, Xs]
    refine wl_store_cell 0 2 (.tmp 45) (.tmp 44) (.int .i64 lo) (.int .i64 ((L[i]!).1)) rfl rfl rfl rfl rfl rfl (by kernel_rfl) rfl ?_
    simp only [Act.put, List.set_cons_zero]
    refine wl_nil ?_
    refine we_then ?_
    refine wc_region ?_
    refine wl_val (.bool true) rfl (fun _ => rfl) ?_
    simp only [Act.put, Xa, Xz, Xs]
    refine wl_nil ?_
    refine we_in ?_
    refine we_then ?_
    refine wc_region ?_
    refine wl_val (.int .i64 (i : Int)) rfl (fun _ => rfl) ?_
    simp only [Act.put, Xa, Xz, Xs]
    refine wl_val (.int .i64 ((i : Int) + 1)) rfl (fun w => run_arith (op := .add) rfl rfl rfl Try.underlying3 (congrArg some (i64_in (by omega) (by omega))) w) ?_
    simp only [Act.put, Xa, Xz, Xs]
    refine wl_val (.int .i64 ((i : Int) + 1)) rfl (fun _ => rfl) ?_
    simp only [Act.put, Xa, Xz, Xs]
    refine wl_nil ?_
    exact we_meet ⟨(i + 1), true, (L[i]!).1, _, _, _, _, _, _, _, _, _, _, _, _, _, _, _, _, _, _, _, _, _, _, _, _, _, _, _, _, _, _, _, _, _, _, _⟩ (by (try dsimp only); rw [h14] at b2; exact ⟨⟨by omega, low_yes b2 (by show (decide (k ≤ (cnt L ((L[i]!).1) : Int)) && (!false || decide ((L[i]!).1 < lo))) = true; rw [h12]; rfl)⟩, by omega⟩) rfl (List.Sublist.cons_cons _ (List.Sublist.cons_cons _ List.Sublist.slnil))
   ·
    skip
    refine ws_late (.slice p L.length c) rfl rfl (fun _ => rfl) ?_
    simp only [Nat.reduceAdd, Act.put, Xa, Xz, Xs]
    refine ws_late (.int .i64 (i : Int)) rfl rfl (fun _ => rfl) ?_
    simp only [Nat.reduceAdd, Act.put, Xa, Xz, Xs]
    refine ws_read (eaddr p (i * 2)) rfl rfl (er_index i 2 (sl_old hL) rfl rfl rfl rfl (by omega) (flat_length (enc := enc2) (size := 2) (fun _ => rfl) _) (by decide) Try.underlying54 (by kernel_rfl)) ?_
    simp only [Nat.reduceAdd, Act.put, Xa, Xz, Xs]
    refine ws_read (eaddr p (i * 2 + 0)) rfl rfl (er_field (z := 0) (i * 2) 0 0 (sl_old hL) rfl rfl (flat_lt (enc := enc2) (fun _ => rfl) L i 0 (by omega) (by decide)) Try.underlying28 rfl rfl (by kernel_rfl)) ?_
    simp only [Nat.reduceAdd, Act.put, Xa, Xz, Xs]
    refine ws_read (.int .i64 ((L[i]!).1)) rfl rfl (er_cell (i * 2 + 0) (.int .i64 ((L[i]!).1)) (sl_old hL) rfl rfl (flat_cell (enc := enc2) (fun _ => rfl) L i 0 (by omega) (by decide)) Try.isAgg2) ?_
    simp only [Nat.reduceAdd, Act.put, Xa, Xz, Xs]
    refine ws_late (.pointer (some ⟨g2, 0, none⟩)) rfl rfl (fun _ => by go_simp) ?_
    simp only [Nat.reduceAdd, Act.put, Xa, Xz, Xs]
    refine ws_cell 2 (.tmp 35) (.int .i64 lo) (own_row 0 rfl) rfl rfl rfl rfl rfl Try.isAgg2 ?_
    simp only [Nat.reduceAdd, Act.put, Xa, Xz, Xs]
    refine ws_late (.bool (decide ((L[i]!).1 < lo))) rfl rfl (fun w => run_cmp rfl rfl rfl Try.underlying2 rfl w) ?_
    simp only [Nat.reduceAdd, Act.put, Xa, Xz, Xs]
    refine ws_late (.bool (decide ((L[i]!).1 < lo))) rfl rfl (fun _ => rfl) ?_
    simp only [Nat.reduceAdd, Act.put, Xa, Xz, Xs]
    refine ws_late (.bool (decide ((L[i]!).1 < lo))) rfl rfl (fun _ => rfl) ?_
    simp only [Nat.reduceAdd, Act.put, Xa, Xz, Xs]
    refine ws_nil [] trivial (by simp) ?_
    intro ps16
    simp only [fin, List.foldl_nil, List.map, List.nil_append]
    refine we_then ?_
    cases h17 : (decide ((L[i]!).1 < lo))
    ·
     skip
     have p17 : ¬ ((L[i]!).1 < lo) := of_decide_eq_false h17
     refine wc_false rfl ?_
     refine wc_skip ?_
     refine we_in ?_
     refine we_then ?_
     refine wc_region ?_
     refine wl_val (.int .i64 (i : Int)) rfl (fun _ => rfl) ?_
     simp only [Act.put, Xa, Xz, Xs]
     refine wl_val (.int .i64 ((i : Int) + 1)) rfl (fun w => run_arith (op := .add) rfl rfl rfl Try.underlying3 (congrArg some (i64_in (by omega) (by omega))) w) ?_
     simp only [Act.put, Xa, Xz, Xs]
     refine wl_val (.int .i64 ((i : Int) + 1)) rfl (fun _ => rfl) ?_
     simp only [Act.put, Xa, Xz, Xs]
     refine wl_nil ?_
     exact we_meet ⟨(i + 1), true, lo, _, _, _, _, _, _, _, _, _, _, _, _, _, _, _, _, _, _, _, _, _, _, _, _, _, _, _, _, _, _, _, _, _, _, _⟩ (by (try dsimp only); rw [h14] at b2; exact ⟨⟨by omega, low_no b2 (by show (decide (k ≤ (cnt L ((L[i]!).1) : Int)) && (!true || decide ((L[i]!).1 < lo))) = false; rw [h12, h17]; rfl)⟩, by omega⟩) rfl (List.Sublist.cons_cons _ (List.Sublist.cons_cons _ List.Sublist.slnil))
    ·
     skip
     have p17 : (L[i]!).1 < lo := of_decide_eq_true h17
     refine wc_true rfl ?_
     refine wc_seq ?_
     refine wc_region ?_
     refine wl_val (.slice p L.length c) rfl (fun _ => rfl) ?_
     simp only [Act.put, Xa, Xz, Xs]
     refine wl_val (.int .i64 (i : Int)) rfl (fun _ => rfl) ?_
     simp only [Act.put, Xa, Xz, Xs]
     refine wl_read (eaddr p (i * 2)) rfl (er_index i 2 (sl_old hL) rfl rfl rfl rfl (by omega) (flat_length (enc := enc2) (size := 2) (fun _ => rfl) _) (by decide) Try.underlying54 (by kernel_rfl)) ?_
     simp only [Act.put, Xa, Xz, Xs]
     refine wl_read (eaddr p (i * 2 + 0)) rfl (er_field (z := 0) (i * 2) 0 0 (sl_old hL) rfl rfl (flat_lt (enc := enc2) (fun _ => rfl) L i 0 (by omega) (by decide)) Try.underlying28 rfl rfl (by kernel_rfl)) ?_
     simp only [Act.put, Xa, Xz, Xs]
     refine wl_read (.int .i64 ((L[i]!).1)) rfl (er_cell (i * 2 + 0) (.int .i64 ((L[i]!).1)) (sl_old hL) rfl rfl (flat_cell (enc := enc2) (fun _ => rfl) L i 0 (by omega) (by decide)) Try.isAgg2) ?_
     simp only [Act.put, Xa, Xz, Xs]
     refine wl_val (.pointer (some ⟨g2, 0, none⟩)) rfl (fun _ => by go_simp) ?_
     simp only [Act.put, Xa, Xz, Xs]
     refine wl_store_cell 0 2 (.tmp 45) (.tmp 44) (.int .i64 lo) (.int .i64 ((L[i]!).1)) rfl rfl rfl rfl rfl rfl (by kernel_rfl) rfl ?_
     simp only [Act.put, List.set_cons_zero]
     refine wl_nil ?_
     refine we_then ?_
     refine wc_region ?_
     refine wl_val (.bool true) rfl (fun _ => rfl) ?_
     simp only [Act.put, Xa, Xz, Xs]
     refine wl_nil ?_
     refine we_in ?_
     refine we_then ?_
     refine wc_region ?_
     refine wl_val (.int .i64 (i : Int)) rfl (fun _ => rfl) ?_
     simp only [Act.put, Xa, Xz, Xs]
     refine wl_val (.int .i64 ((i : Int) + 1)) rfl (fun w => run_arith (op := .add) rfl rfl rfl Try.underlying3 (congrArg some (i64_in (by omega) (by omega))) w) ?_
     simp only [Act.put, Xa, Xz, Xs]
     refine wl_val (.int .i64 ((i : Int) + 1)) rfl (fun _ => rfl) ?_
     simp only [Act.put, Xa, Xz, Xs]
     refine wl_nil ?_
     exact we_meet ⟨(i + 1), true, (L[i]!).1, _, _, _, _, _, _, _, _, _, _, _, _, _, _, _, _, _, _, _, _, _, _, _, _, _, _, _, _, _, _, _, _, _, _, _⟩ (by (try dsimp only); rw [h14] at b2; exact ⟨⟨by omega, low_yes b2 (by show (decide (k ≤ (cnt L ((L[i]!).1) : Int)) && (!true || decide ((L[i]!).1 < lo))) = true; rw [h12, h17]; rfl)⟩, by omega⟩) rfl (List.Sublist.cons_cons _ (List.Sublist.cons_cons _ List.Sublist.slnil))
end Go.Proofs.Ytlfienfjdjfcoaa.Vref
