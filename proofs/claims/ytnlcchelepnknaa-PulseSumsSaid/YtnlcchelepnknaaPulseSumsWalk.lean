/-
  PulseSums: the law's walk. No condition.
-/
import Derived.Test.YtnlcchelepnknaaPls
namespace Go.Proofs.Ytnlcchelepnknaa.Walks
open Go.ChangeShapes Go.WideShapes Go.ChangeAt Go.RowKit
open Arr Steady Sx Sw Sl Sb Sc Si Sj Sk Pu Num Pls
set_option linter.unusedVariables false
set_option linter.unusedSimpArgs false
set_option maxRecDepth 100000

set_option maxHeartbeats 2000000 in
theorem pulseSums_walk (s : Int) (ws : (Lit.int .i64 s).wf = true) (L : List Int) (p : Option Addr) (c : Nat) (M : List Bool) (q : Option Addr) (d : Nat) (w : World) (hL : Reads w p (flat enc16 L)) (hz : ∀ i, i < L.length → -32768 ≤ L[i]! ∧ L[i]! ≤ 32767) (hM : Reads w q (flat encb M)) :
    Calls Try.prog 5 #[.int .i64 s, .slice p L.length c, .slice q M.length d] w fun e w' => e = .returned (.bool true) ∧ Below w.heap.size w w' := by
  have s0 := i64_of_wf ws
  refine calls_sx Try.func5 rfl ?_
  simp only [Try.ntmps5, List.size_toArray, List.length_cons, List.length_nil, Nat.reduceAdd, Nat.reduceSub, Array.replicate_succ, Array.replicate_zero, List.push_toArray, List.append_toArray, List.nil_append, List.cons_append]
  refine wc_seq ?_
  refine wc_region ?_
  refine wl_val (.bool false) rfl (fun _ => rfl) ?_
  simp only [Act.put, List.setIfInBounds_toArray, List.set_cons_zero, List.set_cons_succ]
  refine wl_nil ?_
  refine we_then ?_
  refine wc_seq ?_
  refine wc_seq ?_
  refine wc_region ?_
  refine wl_call 7 #[] (.bool true) rfl (fun _ => by go_simp) (fun W => Pls.anchor_any W) ?_
  simp only [Act.put, List.setIfInBounds_toArray, List.set_cons_zero, List.set_cons_succ]
  refine wl_val (.bool false) rfl (fun _ => by go_simp) ?_
  simp only [Act.put, List.setIfInBounds_toArray, List.set_cons_zero, List.set_cons_succ]
  refine wl_nil ?_
  refine we_then ?_
  refine wc_false rfl ?_
  refine wc_skip ?_
  refine we_then ?_
  refine wc_seq ?_
  refine wc_seq ?_
  refine wc_region ?_
  refine wl_val (.slice p L.length c) rfl (fun _ => rfl) ?_
  simp only [Act.put, List.setIfInBounds_toArray, List.set_cons_zero, List.set_cons_succ]
  refine wl_val (.int .i64 (L.length : Int)) rfl (fun w => er_len rfl rfl Try.underlying40 w) ?_
  simp only [Act.put, List.setIfInBounds_toArray, List.set_cons_zero, List.set_cons_succ]
  refine wl_val (.bool (decide (500 < (L.length : Int)))) rfl (fun w => run_cmp rfl rfl rfl Try.underlying3 rfl w) ?_
  simp only [Act.put, List.setIfInBounds_toArray, List.set_cons_zero, List.set_cons_succ]
  refine wl_val (.bool (decide (500 < (L.length : Int)))) rfl (fun _ => rfl) ?_
  simp only [Act.put, List.setIfInBounds_toArray, List.set_cons_zero, List.set_cons_succ]
  cases h1 : (decide (500 < (L.length : Int)))
  · skip
    have p1 : ¬ (500 < (L.length : Int)) := of_decide_eq_false h1
    refine wl_val (.int .i64 s) rfl (fun _ => rfl) ?_
    simp only [Act.put, List.setIfInBounds_toArray, List.set_cons_zero, List.set_cons_succ]
    refine wl_val (.bool (decide (s < -1099511627776))) rfl (fun w => run_cmp rfl rfl rfl Try.underlying2 rfl w) ?_
    simp only [Act.put, List.setIfInBounds_toArray, List.set_cons_zero, List.set_cons_succ]
    refine wl_val (.bool (decide (s < -1099511627776))) rfl (fun _ => rfl) ?_
    simp only [Act.put, List.setIfInBounds_toArray, List.set_cons_zero, List.set_cons_succ]
    refine wl_val (.bool (decide (s < -1099511627776))) rfl (fun _ => rfl) ?_
    simp only [Act.put, List.setIfInBounds_toArray, List.set_cons_zero, List.set_cons_succ]
    cases h2 : (decide (s < -1099511627776))
    · skip
      have p2 : ¬ (s < -1099511627776) := of_decide_eq_false h2
      refine wl_val (.int .i64 s) rfl (fun _ => rfl) ?_
      simp only [Act.put, List.setIfInBounds_toArray, List.set_cons_zero, List.set_cons_succ]
      refine wl_val (.bool (decide (1099511627776 < s))) rfl (fun w => run_cmp rfl rfl rfl Try.underlying2 rfl w) ?_
      simp only [Act.put, List.setIfInBounds_toArray, List.set_cons_zero, List.set_cons_succ]
      refine wl_val (.bool (decide (1099511627776 < s))) rfl (fun _ => rfl) ?_
      simp only [Act.put, List.setIfInBounds_toArray, List.set_cons_zero, List.set_cons_succ]
      refine wl_nil ?_
      refine we_then ?_
      cases h3 : (decide (1099511627776 < s))
      · skip
        have p3 : ¬ (1099511627776 < s) := of_decide_eq_false h3
        refine wc_false rfl ?_
        refine wc_skip ?_
        refine we_then ?_
        refine wc_seq ?_
        refine wc_region ?_
        refine wl_new 28 (#[.bool false, .int .u16 0, .int .i64 0]) rfl (fun _ => by go_simp) ?_
        intro g4
        simp only [Act.put, List.setIfInBounds_toArray, List.set_cons_zero, List.set_cons_succ]
        refine wl_nil ?_
        refine we_then ?_
        refine wc_seq ?_
        refine wc_region ?_
        refine wl_val (.int .i64 s) rfl (fun _ => rfl) ?_
        simp only [Act.put, List.setIfInBounds_toArray, List.set_cons_zero, List.set_cons_succ]
        refine wl_val (.int .i64 s) rfl (fun _ => rfl) ?_
        simp only [Act.put, List.setIfInBounds_toArray, List.set_cons_zero, List.set_cons_succ]
        refine wl_val (.int .i64 0) rfl (fun _ => rfl) ?_
        simp only [Act.put, List.setIfInBounds_toArray, List.set_cons_zero, List.set_cons_succ]
        refine wl_val (.bool false) rfl (fun _ => rfl) ?_
        simp only [Act.put, List.setIfInBounds_toArray, List.set_cons_zero, List.set_cons_succ]
        refine wl_nil ?_
        refine we_then ?_
        refine wc_seq ?_
        refine wc_seq ?_
        refine wc_region ?_
        refine wl_val (.slice p L.length c) rfl (fun _ => rfl) ?_
        simp only [Act.put, List.setIfInBounds_toArray, List.set_cons_zero, List.set_cons_succ]
        refine wl_val (.int .i64 (L.length : Int)) rfl (fun w => er_len rfl rfl Try.underlying40 w) ?_
        simp only [Act.put, List.setIfInBounds_toArray, List.set_cons_zero, List.set_cons_succ]
        refine wl_val (.int .i64 0) rfl (fun _ => rfl) ?_
        simp only [Act.put, List.setIfInBounds_toArray, List.set_cons_zero, List.set_cons_succ]
        refine wl_nil ?_
        refine we_then ?_
        refine wc_block ?_
        refine wc_loop (fun (zz : Nat × Int × Int × Bool × Int × Value × Value × Value × Value × Value × Value × Value × Value × Value × Value × Value × Value × Value × Value × Value × Value × Value × Value × Value × Value × Value × Value × Value × Value × Value × Value × Value × Value × Value × Value × Value × Value × Value × Value × Value × Value × Value × Value × Value × Value × Value × Value × Value × Value × Value × Value × Value × Value × Value × Value × Value × Value × Value × Value × Value × Value) => match zz with | ⟨i, x, y, k, l, u6, u11, u12, u13, u14, u15, u33, u34, u35, u36, u37, u38, u39, u40, u41, u42, u43, u44, u45, u46, u47, u48, u49, u50, u51, u52, u53, u54, u55, u56, u57, u58, u59, u60, u61, u62, u63, u64, u65, u66, u67, u68, u69, u70, u71, u72, u73, u74, u75, u76, u77, u78, u79, u80, u81, u82⟩ => ({ tmps := #[.int .i64 s, .slice p L.length c, .slice q M.length d, undef, undef, undef, u6, .pointer (some ⟨g4, 0, none⟩), .int .i64 x, .int .i64 y, .bool k, u11, u12, u13, u14, u15, .bool true, .bool false, .slice p L.length c, .int .i64 (L.length : Int), .bool false, .bool false, .int .i64 s, .bool false, .bool false, .bool false, .int .i64 s, .bool false, .bool false, .int .i64 s, .slice p L.length c, .int .i64 (L.length : Int), .int .i64 (i : Int), u33, u34, u35, u36, u37, u38, u39, u40, u41, u42, u43, u44, u45, u46, u47, u48, u49, u50, u51, u52, u53, u54, u55, u56, u57, u58, u59, u60, u61, u62, u63, u64, u65, u66, u67, u68, u69, u70, u71, u72, u73, u74, u75, u76, u77, u78, u79, u80, u81, u82, undef, undef, undef, undef, undef, undef, undef, undef, undef, undef], defers := [] } : Act)) (fun (zz : Nat × Int × Int × Bool × Int × Value × Value × Value × Value × Value × Value × Value × Value × Value × Value × Value × Value × Value × Value × Value × Value × Value × Value × Value × Value × Value × Value × Value × Value × Value × Value × Value × Value × Value × Value × Value × Value × Value × Value × Value × Value × Value × Value × Value × Value × Value × Value × Value × Value × Value × Value × Value × Value × Value × Value × Value × Value × Value × Value × Value × Value) => match zz with | ⟨i, x, y, k, l, u6, u11, u12, u13, u14, u15, u33, u34, u35, u36, u37, u38, u39, u40, u41, u42, u43, u44, u45, u46, u47, u48, u49, u50, u51, u52, u53, u54, u55, u56, u57, u58, u59, u60, u61, u62, u63, u64, u65, u66, u67, u68, u69, u70, u71, u72, u73, u74, u75, u76, u77, u78, u79, u80, u81, u82⟩ => [⟨g4, #[.bool k, .int .u16 l, .int .i64 y], 28⟩]) (fun (zz : Nat × Int × Int × Bool × Int × Value × Value × Value × Value × Value × Value × Value × Value × Value × Value × Value × Value × Value × Value × Value × Value × Value × Value × Value × Value × Value × Value × Value × Value × Value × Value × Value × Value × Value × Value × Value × Value × Value × Value × Value × Value × Value × Value × Value × Value × Value × Value × Value × Value × Value × Value × Value × Value × Value × Value × Value × Value × Value × Value × Value × Value) => match zz with | ⟨i, x, y, k, l, u6, u11, u12, u13, u14, u15, u33, u34, u35, u36, u37, u38, u39, u40, u41, u42, u43, u44, u45, u46, u47, u48, u49, u50, u51, u52, u53, u54, u55, u56, u57, u58, u59, u60, u61, u62, u63, u64, u65, u66, u67, u68, u69, u70, u71, u72, u73, u74, u75, u76, u77, u78, u79, u80, u81, u82⟩ => i ≤ L.length ∧ s - 32768 * (i : Int) ≤ x ∧ x ≤ s + 32768 * (i : Int) ∧ - 32768 * (i : Int) ≤ y ∧ y ≤ 32768 * (i : Int) ∧ 0 ≤ l ∧ l ≤ 65535 ∧ (k = true → l = x % 65536)) (fun (zz : Nat × Int × Int × Bool × Int × Value × Value × Value × Value × Value × Value × Value × Value × Value × Value × Value × Value × Value × Value × Value × Value × Value × Value × Value × Value × Value × Value × Value × Value × Value × Value × Value × Value × Value × Value × Value × Value × Value × Value × Value × Value × Value × Value × Value × Value × Value × Value × Value × Value × Value × Value × Value × Value × Value × Value × Value × Value × Value × Value × Value × Value) => match zz with | ⟨i, x, y, k, l, u6, u11, u12, u13, u14, u15, u33, u34, u35, u36, u37, u38, u39, u40, u41, u42, u43, u44, u45, u46, u47, u48, u49, u50, u51, u52, u53, u54, u55, u56, u57, u58, u59, u60, u61, u62, u63, u64, u65, u66, u67, u68, u69, u70, u71, u72, u73, u74, u75, u76, u77, u78, u79, u80, u81, u82⟩ => L.length - i) ⟨0, s, 0, false, 0, _, _, _, _, _, _, _, _, _, _, _, _, _, _, _, _, _, _, _, _, _, _, _, _, _, _, _, _, _, _, _, _, _, _, _, _, _, _, _, _, _, _, _, _, _, _, _, _, _, _, _, _, _, _, _, _⟩ ⟨Nat.zero_le _, by omega, by omega, by omega, by omega, by omega, by omega, fun h => by cases h⟩ rfl (List.Sublist.cons_cons _ List.Sublist.slnil) ?_
        rintro ⟨i, x, y, k, l, u6, u11, u12, u13, u14, u15, u33, u34, u35, u36, u37, u38, u39, u40, u41, u42, u43, u44, u45, u46, u47, u48, u49, u50, u51, u52, u53, u54, u55, u56, u57, u58, u59, u60, u61, u62, u63, u64, u65, u66, u67, u68, u69, u70, u71, u72, u73, u74, u75, u76, u77, u78, u79, u80, u81, u82⟩ hφ
        (try dsimp only at hφ ⊢)
        obtain ⟨b1, b2, b3, b4, b5, b6, b8, b7⟩ := hφ
        refine wc_seq ?_
        refine wc_region ?_
        refine wl_val (.bool (decide ((i : Int) < (L.length : Int)))) rfl (fun w => run_cmp rfl rfl rfl Try.underlying3 rfl w) ?_
        simp only [Act.put, List.setIfInBounds_toArray, List.set_cons_zero, List.set_cons_succ]
        refine wl_nil ?_
        refine we_then ?_
        refine wc_seq ?_
        cases h5 : (decide ((i : Int) < (L.length : Int)))
        · skip
          have p5 : ¬ ((i : Int) < (L.length : Int)) := of_decide_eq_false h5
          refine wc_false rfl ?_
          refine wc_exit ?_
          refine we_then_exit ?_
          refine we_then_exit ?_
          refine we_in_here ?_
          refine we_then ?_
          refine wc_seq ?_
          refine wc_region ?_
          refine wl_val (.pointer (some ⟨g4, 2, none⟩)) rfl (fun _ => by go_simp) ?_
          simp only [Act.put, List.setIfInBounds_toArray, List.set_cons_zero, List.set_cons_succ]
          refine wl_cell 2 (.tmp 83) (.int .i64 y) (own_row 0 rfl) rfl rfl rfl rfl Try.isAgg2 ?_
          simp only [Act.put, List.setIfInBounds_toArray, List.set_cons_zero, List.set_cons_succ]
          refine wl_val (.int .i64 y) rfl (fun _ => rfl) ?_
          simp only [Act.put, List.setIfInBounds_toArray, List.set_cons_zero, List.set_cons_succ]
          refine wl_val (.bool true) rfl (fun w => run_cmp (b := true) rfl rfl rfl Try.underlying2 (by simp [cmpOf]) w) ?_
          simp only [Act.put, List.setIfInBounds_toArray, List.set_cons_zero, List.set_cons_succ]
          refine wl_val (.bool true) rfl (fun _ => rfl) ?_
          simp only [Act.put, List.setIfInBounds_toArray, List.set_cons_zero, List.set_cons_succ]
          refine wl_val (.pointer (some ⟨g4, 0, none⟩)) rfl (fun _ => by go_simp) ?_
          simp only [Act.put, List.setIfInBounds_toArray, List.set_cons_zero, List.set_cons_succ]
          refine wl_cell 4 (.tmp 88) (.bool k) (own_row 0 rfl) rfl rfl rfl rfl Try.isAgg4 ?_
          simp only [Act.put, List.setIfInBounds_toArray, List.set_cons_zero, List.set_cons_succ]
          refine wl_val (.bool k) rfl (fun _ => rfl) ?_
          simp only [Act.put, List.setIfInBounds_toArray, List.set_cons_zero, List.set_cons_succ]
          refine wl_val (.bool true) rfl (fun w => run_beq rfl rfl rfl Try.underlying4 (by cases (k) <;> rfl) w) ?_
          simp only [Act.put, List.setIfInBounds_toArray, List.set_cons_zero, List.set_cons_succ]
          refine wl_val (.bool true) rfl (fun _ => rfl) ?_
          simp only [Act.put, List.setIfInBounds_toArray, List.set_cons_zero, List.set_cons_succ]
          refine wl_val (.bool true) rfl (fun _ => rfl) ?_
          simp only [Act.put, List.setIfInBounds_toArray, List.set_cons_zero, List.set_cons_succ]
          refine wl_nil ?_
          refine we_then ?_
          refine wc_ret ?_
          refine we_ret1 (.bool true) rfl rfl rfl (fun w1 hE => ?_)
          exact ⟨rfl, hE.below⟩
        · skip
          have p5 : (i : Int) < (L.length : Int) := of_decide_eq_true h5
          refine wc_true rfl ?_
          refine wc_skip ?_
          refine we_then ?_
          refine wc_seq ?_
          refine wc_block ?_
          refine wc_seq ?_
          have bz := hz i (by omega)
          refine wc_region ?_
          refine wl_val (.int .i64 (i : Int)) rfl (fun _ => rfl) ?_
          simp only [Act.put, List.setIfInBounds_toArray, List.set_cons_zero, List.set_cons_succ]
          refine wl_read (eaddr p (i * 1)) rfl (er_index i 1 (sl_old hL) rfl rfl rfl rfl (by omega) (flat_length (enc := enc16) (size := 1) (fun _ => rfl) _) (by decide) Try.underlying40 (by kernel_rfl)) ?_
          simp only [Act.put, List.setIfInBounds_toArray, List.set_cons_zero, List.set_cons_succ]
          refine wl_read (.int .i16 (L[i]!)) rfl (er_cell (i * 1) (.int .i16 (L[i]!)) (sl_old hL) rfl rfl (flat_cell (enc := enc16) (fun _ => rfl) L i 0 (by omega) (by decide)) Try.isAgg42) ?_
          simp only [Act.put, List.setIfInBounds_toArray, List.set_cons_zero, List.set_cons_succ]
          refine wl_val (.int .i64 (i : Int)) rfl (fun _ => rfl) ?_
          simp only [Act.put, List.setIfInBounds_toArray, List.set_cons_zero, List.set_cons_succ]
          refine wl_val (.int .i16 (L[i]!)) rfl (fun _ => rfl) ?_
          simp only [Act.put, List.setIfInBounds_toArray, List.set_cons_zero, List.set_cons_succ]
          refine wl_nil ?_
          refine we_then ?_
          refine wc_seq ?_
          refine wc_region ?_
          refine wl_val (.int .i64 x) rfl (fun _ => rfl) ?_
          simp only [Act.put, List.setIfInBounds_toArray, List.set_cons_zero, List.set_cons_succ]
          refine wl_val (.int .i16 (L[i]!)) rfl (fun _ => rfl) ?_
          simp only [Act.put, List.setIfInBounds_toArray, List.set_cons_zero, List.set_cons_succ]
          refine wl_val (.int .i64 (L[i]!)) rfl (fun w => Sw.run_conv rfl rfl Try.underlying42 Try.underlying2 (i64_in (by omega) (by omega)) w) ?_
          simp only [Act.put, List.setIfInBounds_toArray, List.set_cons_zero, List.set_cons_succ]
          refine wl_val (.int .i64 (x + (L[i]!))) rfl (fun w => run_arith (op := .add) rfl rfl rfl Try.underlying2 (congrArg some (i64_in (by omega) (by omega))) w) ?_
          simp only [Act.put, List.setIfInBounds_toArray, List.set_cons_zero, List.set_cons_succ]
          refine wl_val (.int .i64 (x + (L[i]!))) rfl (fun _ => rfl) ?_
          simp only [Act.put, List.setIfInBounds_toArray, List.set_cons_zero, List.set_cons_succ]
          refine wl_nil ?_
          refine we_then ?_
          refine wc_seq ?_
          refine wc_region ?_
          refine wl_val (.int .i64 (i : Int)) rfl (fun _ => rfl) ?_
          simp only [Act.put, List.setIfInBounds_toArray, List.set_cons_zero, List.set_cons_succ]
          refine wl_val (.slice q M.length d) rfl (fun _ => rfl) ?_
          simp only [Act.put, List.setIfInBounds_toArray, List.set_cons_zero, List.set_cons_succ]
          refine wl_val (.int .i64 (M.length : Int)) rfl (fun w => er_len rfl rfl Try.underlying41 w) ?_
          simp only [Act.put, List.setIfInBounds_toArray, List.set_cons_zero, List.set_cons_succ]
          refine wl_val (.bool (decide ((M.length : Int) ≤ (i : Int)))) rfl (fun w => run_cmp rfl rfl rfl Try.underlying3 rfl w) ?_
          simp only [Act.put, List.setIfInBounds_toArray, List.set_cons_zero, List.set_cons_succ]
          refine wl_val (.bool (decide ((M.length : Int) ≤ (i : Int)))) rfl (fun _ => rfl) ?_
          simp only [Act.put, List.setIfInBounds_toArray, List.set_cons_zero, List.set_cons_succ]
          cases h6 : (decide ((M.length : Int) ≤ (i : Int)))
          · skip
            have p6 : ¬ ((M.length : Int) ≤ (i : Int)) := of_decide_eq_false h6
            refine wl_val (.slice q M.length d) rfl (fun _ => rfl) ?_
            simp only [Act.put, List.setIfInBounds_toArray, List.set_cons_zero, List.set_cons_succ]
            refine wl_val (.int .i64 (i : Int)) rfl (fun _ => rfl) ?_
            simp only [Act.put, List.setIfInBounds_toArray, List.set_cons_zero, List.set_cons_succ]
            refine wl_read (eaddr q (i * 1)) rfl (er_index i 1 (sl_old hM) rfl rfl rfl rfl (by omega) (flat_length (enc := encb) (size := 1) (fun _ => rfl) _) (by decide) Try.underlying41 (by kernel_rfl)) ?_
            simp only [Act.put, List.setIfInBounds_toArray, List.set_cons_zero, List.set_cons_succ]
            refine wl_read (.bool (M[i]!)) rfl (er_cell (i * 1) (.bool (M[i]!)) (sl_old hM) rfl rfl (flat_cell (enc := encb) (fun _ => rfl) M i 0 (by omega) (by decide)) Try.isAgg4) ?_
            simp only [Act.put, List.setIfInBounds_toArray, List.set_cons_zero, List.set_cons_succ]
            refine wl_val (.bool (!((M[i]!)))) rfl (fun _ => by go_simp) ?_
            simp only [Act.put, List.setIfInBounds_toArray, List.set_cons_zero, List.set_cons_succ]
            refine wl_val (.bool (!((M[i]!)))) rfl (fun _ => rfl) ?_
            simp only [Act.put, List.setIfInBounds_toArray, List.set_cons_zero, List.set_cons_succ]
            refine wl_val (.bool (!((M[i]!)))) rfl (fun _ => rfl) ?_
            simp only [Act.put, List.setIfInBounds_toArray, List.set_cons_zero, List.set_cons_succ]
            refine wl_nil ?_
            refine we_then ?_
            refine wc_seq ?_
            refine wc_region ?_
            refine wl_val (.int .i64 0) rfl (fun _ => rfl) ?_
            simp only [Act.put, List.setIfInBounds_toArray, List.set_cons_zero, List.set_cons_succ]
            refine wl_nil ?_
            refine we_then ?_
            refine wc_seq ?_
            refine wc_region ?_
            refine wl_val (.bool false) rfl (fun _ => rfl) ?_
            simp only [Act.put, List.setIfInBounds_toArray, List.set_cons_zero, List.set_cons_succ]
            refine wl_nil ?_
            refine we_then ?_
            refine wc_seq ?_
            refine wc_region ?_
            refine wl_load 28 (.tmp 7) (own_row 0 rfl) rfl rfl rfl Try.underlying28 rfl (by kernel_rfl) ?_
            simp only [Act.put, List.setIfInBounds_toArray, List.set_cons_zero, List.set_cons_succ]
            refine wl_val (.int .i64 (x + (L[i]!))) rfl (fun _ => rfl) ?_
            simp only [Act.put, List.setIfInBounds_toArray, List.set_cons_zero, List.set_cons_succ]
            refine wl_val (.int .i64 ((x + (L[i]!)) % 65536)) rfl (fun w => run_and65535 rfl rfl rfl w) ?_
            simp only [Act.put, List.setIfInBounds_toArray, List.set_cons_zero, List.set_cons_succ]
            refine wl_val (.bool (!((M[i]!)))) rfl (fun _ => rfl) ?_
            simp only [Act.put, List.setIfInBounds_toArray, List.set_cons_zero, List.set_cons_succ]
            cases h7 : (((M[i]!)))
            · skip
              cases h8 : (k)
              · skip
                refine wl_call 10 #[.agg #[.bool false, .int .u16 l, .int .i64 y], .int .i64 ((x + (L[i]!)) % 65536), .bool true] (.tuple #[.agg #[.bool true, .int .u16 (((x + (L[i]!)) % 65536) % 65536), .int .i64 y], .int .i64 0, .bool false]) rfl (fun _ => by go_simp) (fun W => next_new l y ((x + (L[i]!)) % 65536) W (by omega) (fits_in (by omega) (by omega))) ?_
                simp only [Act.put, List.setIfInBounds_toArray, List.set_cons_zero, List.set_cons_succ]
                refine wl_val (.tuple #[.agg #[.bool true, .int .u16 (((x + (L[i]!)) % 65536) % 65536), .int .i64 y], .int .i64 0, .bool false]) rfl (fun _ => rfl) ?_
                simp only [Act.put, List.setIfInBounds_toArray, List.set_cons_zero, List.set_cons_succ]
                refine wl_val (.agg #[.bool true, .int .u16 (((x + (L[i]!)) % 65536) % 65536), .int .i64 y]) rfl (fun _ => by go_simp) ?_
                simp only [Act.put, List.setIfInBounds_toArray, List.set_cons_zero, List.set_cons_succ]
                refine wl_val (.int .i64 0) rfl (fun _ => by go_simp) ?_
                simp only [Act.put, List.setIfInBounds_toArray, List.set_cons_zero, List.set_cons_succ]
                refine wl_val (.bool false) rfl (fun _ => by go_simp) ?_
                simp only [Act.put, List.setIfInBounds_toArray, List.set_cons_zero, List.set_cons_succ]
                refine wl_store 0 28 (.tmp 7) (.tmp 58) (#[.bool true, .int .u16 (((x + (L[i]!)) % 65536) % 65536), .int .i64 y]) rfl rfl rfl rfl rfl (by kernel_rfl) rfl (by simp [Value.oneCell']) ?_
                simp only [Act.put, List.set_cons_zero]
                refine wl_val (.int .i64 0) rfl (fun _ => rfl) ?_
                simp only [Act.put, List.setIfInBounds_toArray, List.set_cons_zero, List.set_cons_succ]
                refine wl_val (.bool false) rfl (fun _ => rfl) ?_
                simp only [Act.put, List.setIfInBounds_toArray, List.set_cons_zero, List.set_cons_succ]
                refine wl_nil ?_
                refine we_then ?_
                refine wc_seq ?_
                refine wc_seq ?_
                refine wc_region ?_
                refine wl_val (.bool false) rfl (fun _ => rfl) ?_
                simp only [Act.put, List.setIfInBounds_toArray, List.set_cons_zero, List.set_cons_succ]
                refine wl_val (.bool false) rfl (fun _ => rfl) ?_
                simp only [Act.put, List.setIfInBounds_toArray, List.set_cons_zero, List.set_cons_succ]
                refine wl_val (.bool false) rfl (fun _ => rfl) ?_
                simp only [Act.put, List.setIfInBounds_toArray, List.set_cons_zero, List.set_cons_succ]
                refine wl_skip rfl ?_
                simp only [Act.put, List.setIfInBounds_toArray, List.set_cons_zero, List.set_cons_succ]
                refine wl_val (.bool false) rfl (fun _ => rfl) ?_
                simp only [Act.put, List.setIfInBounds_toArray, List.set_cons_zero, List.set_cons_succ]
                refine wl_val (.bool false) rfl (fun _ => by go_simp) ?_
                simp only [Act.put, List.setIfInBounds_toArray, List.set_cons_zero, List.set_cons_succ]
                refine wl_val (.bool false) rfl (fun _ => rfl) ?_
                simp only [Act.put, List.setIfInBounds_toArray, List.set_cons_zero, List.set_cons_succ]
                refine wl_val (.bool false) rfl (fun _ => rfl) ?_
                simp only [Act.put, List.setIfInBounds_toArray, List.set_cons_zero, List.set_cons_succ]
                refine wl_val (.bool false) rfl (fun _ => rfl) ?_
                simp only [Act.put, List.setIfInBounds_toArray, List.set_cons_zero, List.set_cons_succ]
                refine wl_skip rfl ?_
                simp only [Act.put, List.setIfInBounds_toArray, List.set_cons_zero, List.set_cons_succ]
                refine wl_skip rfl ?_
                simp only [Act.put, List.setIfInBounds_toArray, List.set_cons_zero, List.set_cons_succ]
                refine wl_skip rfl ?_
                simp only [Act.put, List.setIfInBounds_toArray, List.set_cons_zero, List.set_cons_succ]
                refine wl_skip rfl ?_
                simp only [Act.put, List.setIfInBounds_toArray, List.set_cons_zero, List.set_cons_succ]
                refine wl_val (.bool false) rfl (fun _ => rfl) ?_
                simp only [Act.put, List.setIfInBounds_toArray, List.set_cons_zero, List.set_cons_succ]
                refine wl_val (.bool false) rfl (fun _ => rfl) ?_
                simp only [Act.put, List.setIfInBounds_toArray, List.set_cons_zero, List.set_cons_succ]
                refine wl_nil ?_
                refine we_then ?_
                refine wc_false rfl ?_
                refine wc_skip ?_
                refine we_then ?_
                refine wc_seq ?_
                refine wc_seq ?_
                refine wc_region ?_
                refine wl_val (.bool false) rfl (fun _ => rfl) ?_
                simp only [Act.put, List.setIfInBounds_toArray, List.set_cons_zero, List.set_cons_succ]
                refine wl_nil ?_
                refine we_then ?_
                refine wc_false rfl ?_
                refine wc_skip ?_
                refine we_then ?_
                refine wc_region ?_
                refine wl_val (.bool true) rfl (fun _ => rfl) ?_
                simp only [Act.put, List.setIfInBounds_toArray, List.set_cons_zero, List.set_cons_succ]
                refine wl_val (.bool true) rfl (fun _ => rfl) ?_
                simp only [Act.put, List.setIfInBounds_toArray, List.set_cons_zero, List.set_cons_succ]
                refine wl_nil ?_
                refine we_in ?_
                refine we_then ?_
                refine wc_region ?_
                refine wl_val (.int .i64 ((i + 1 : Nat) : Int)) rfl (fun w => run_nat (X := i) (Y := 1) (Z := i + 1) rfl rfl rfl rfl (by omega) w) ?_
                simp only [Act.put, List.setIfInBounds_toArray, List.set_cons_zero, List.set_cons_succ]
                refine wl_val (.int .i64 ((i + 1 : Nat) : Int)) rfl (fun _ => rfl) ?_
                simp only [Act.put, List.setIfInBounds_toArray, List.set_cons_zero, List.set_cons_succ]
                refine wl_nil ?_
                exact we_meet ⟨(i + 1), (x + (L[i]!)), y, true, (((x + (L[i]!)) % 65536) % 65536), _, _, _, _, _, _, _, _, _, _, _, _, _, _, _, _, _, _, _, _, _, _, _, _, _, _, _, _, _, _, _, _, _, _, _, _, _, _, _, _, _, _, _, _, _, _, _, _, _, _, _, _, _, _, _, _⟩ (by (try dsimp only); exact ⟨⟨by omega, by omega, by omega, by omega, by omega, by omega, by omega, fun h => by omega⟩, by omega⟩) rfl (List.Sublist.cons_cons _ List.Sublist.slnil)
              · skip
                refine wl_call 10 #[.agg #[.bool true, .int .u16 l, .int .i64 y], .int .i64 ((x + (L[i]!)) % 65536), .bool true] (.tuple #[.agg #[.bool true, .int .u16 (((x + (L[i]!)) % 65536) % 65536), .int .i64 (y + (L[i]!))], .int .i64 (L[i]!), .bool true]) rfl (fun _ => by go_simp) (fun W => next_told l y ((x + (L[i]!)) % 65536) (L[i]!) W (by omega) (fits_in (by omega) (by omega)) (by have b9 := b7 h8; exact dlt_of (by omega) (by omega) (by omega)) (fits_in (by omega) (by omega))) ?_
                simp only [Act.put, List.setIfInBounds_toArray, List.set_cons_zero, List.set_cons_succ]
                refine wl_val (.tuple #[.agg #[.bool true, .int .u16 (((x + (L[i]!)) % 65536) % 65536), .int .i64 (y + (L[i]!))], .int .i64 (L[i]!), .bool true]) rfl (fun _ => rfl) ?_
                simp only [Act.put, List.setIfInBounds_toArray, List.set_cons_zero, List.set_cons_succ]
                refine wl_val (.agg #[.bool true, .int .u16 (((x + (L[i]!)) % 65536) % 65536), .int .i64 (y + (L[i]!))]) rfl (fun _ => by go_simp) ?_
                simp only [Act.put, List.setIfInBounds_toArray, List.set_cons_zero, List.set_cons_succ]
                refine wl_val (.int .i64 (L[i]!)) rfl (fun _ => by go_simp) ?_
                simp only [Act.put, List.setIfInBounds_toArray, List.set_cons_zero, List.set_cons_succ]
                refine wl_val (.bool true) rfl (fun _ => by go_simp) ?_
                simp only [Act.put, List.setIfInBounds_toArray, List.set_cons_zero, List.set_cons_succ]
                refine wl_store 0 28 (.tmp 7) (.tmp 58) (#[.bool true, .int .u16 (((x + (L[i]!)) % 65536) % 65536), .int .i64 (y + (L[i]!))]) rfl rfl rfl rfl rfl (by kernel_rfl) rfl (by simp [Value.oneCell']) ?_
                simp only [Act.put, List.set_cons_zero]
                refine wl_val (.int .i64 (L[i]!)) rfl (fun _ => rfl) ?_
                simp only [Act.put, List.setIfInBounds_toArray, List.set_cons_zero, List.set_cons_succ]
                refine wl_val (.bool true) rfl (fun _ => rfl) ?_
                simp only [Act.put, List.setIfInBounds_toArray, List.set_cons_zero, List.set_cons_succ]
                refine wl_nil ?_
                refine we_then ?_
                refine wc_seq ?_
                refine wc_seq ?_
                refine wc_region ?_
                refine wl_val (.bool true) rfl (fun _ => rfl) ?_
                simp only [Act.put, List.setIfInBounds_toArray, List.set_cons_zero, List.set_cons_succ]
                refine wl_val (.bool true) rfl (fun _ => rfl) ?_
                simp only [Act.put, List.setIfInBounds_toArray, List.set_cons_zero, List.set_cons_succ]
                refine wl_val (.bool true) rfl (fun _ => rfl) ?_
                simp only [Act.put, List.setIfInBounds_toArray, List.set_cons_zero, List.set_cons_succ]
                refine wl_val (.bool true) rfl (fun _ => rfl) ?_
                simp only [Act.put, List.setIfInBounds_toArray, List.set_cons_zero, List.set_cons_succ]
                refine wl_val (.bool true) rfl (fun _ => rfl) ?_
                simp only [Act.put, List.setIfInBounds_toArray, List.set_cons_zero, List.set_cons_succ]
                refine wl_val (.bool false) rfl (fun _ => by go_simp) ?_
                simp only [Act.put, List.setIfInBounds_toArray, List.set_cons_zero, List.set_cons_succ]
                refine wl_val (.bool false) rfl (fun _ => rfl) ?_
                simp only [Act.put, List.setIfInBounds_toArray, List.set_cons_zero, List.set_cons_succ]
                refine wl_val (.bool true) rfl (fun _ => rfl) ?_
                simp only [Act.put, List.setIfInBounds_toArray, List.set_cons_zero, List.set_cons_succ]
                refine wl_val (.bool true) rfl (fun _ => rfl) ?_
                simp only [Act.put, List.setIfInBounds_toArray, List.set_cons_zero, List.set_cons_succ]
                refine wl_val (.int .i64 (L[i]!)) rfl (fun _ => rfl) ?_
                simp only [Act.put, List.setIfInBounds_toArray, List.set_cons_zero, List.set_cons_succ]
                refine wl_val (.int .i16 (L[i]!)) rfl (fun _ => rfl) ?_
                simp only [Act.put, List.setIfInBounds_toArray, List.set_cons_zero, List.set_cons_succ]
                refine wl_val (.int .i64 (L[i]!)) rfl (fun w => Sw.run_conv rfl rfl Try.underlying42 Try.underlying2 (i64_in (by omega) (by omega)) w) ?_
                simp only [Act.put, List.setIfInBounds_toArray, List.set_cons_zero, List.set_cons_succ]
                refine wl_val (.bool false) rfl (fun w => run_cmp (b := false) rfl rfl rfl Try.underlying2 (by simp [cmpOf]) w) ?_
                simp only [Act.put, List.setIfInBounds_toArray, List.set_cons_zero, List.set_cons_succ]
                refine wl_val (.bool false) rfl (fun _ => rfl) ?_
                simp only [Act.put, List.setIfInBounds_toArray, List.set_cons_zero, List.set_cons_succ]
                refine wl_val (.bool false) rfl (fun _ => rfl) ?_
                simp only [Act.put, List.setIfInBounds_toArray, List.set_cons_zero, List.set_cons_succ]
                refine wl_nil ?_
                refine we_then ?_
                refine wc_false rfl ?_
                refine wc_skip ?_
                refine we_then ?_
                refine wc_seq ?_
                refine wc_seq ?_
                refine wc_region ?_
                refine wl_val (.bool true) rfl (fun _ => rfl) ?_
                simp only [Act.put, List.setIfInBounds_toArray, List.set_cons_zero, List.set_cons_succ]
                refine wl_nil ?_
                refine we_then ?_
                refine wc_true rfl ?_
                refine wc_region ?_
                refine wl_val (.int .i64 y) rfl (fun _ => rfl) ?_
                simp only [Act.put, List.setIfInBounds_toArray, List.set_cons_zero, List.set_cons_succ]
                refine wl_val (.int .i16 (L[i]!)) rfl (fun _ => rfl) ?_
                simp only [Act.put, List.setIfInBounds_toArray, List.set_cons_zero, List.set_cons_succ]
                refine wl_val (.int .i64 (L[i]!)) rfl (fun w => Sw.run_conv rfl rfl Try.underlying42 Try.underlying2 (i64_in (by omega) (by omega)) w) ?_
                simp only [Act.put, List.setIfInBounds_toArray, List.set_cons_zero, List.set_cons_succ]
                refine wl_val (.int .i64 (y + (L[i]!))) rfl (fun w => run_arith (op := .add) rfl rfl rfl Try.underlying2 (congrArg some (i64_in (by omega) (by omega))) w) ?_
                simp only [Act.put, List.setIfInBounds_toArray, List.set_cons_zero, List.set_cons_succ]
                refine wl_val (.int .i64 (y + (L[i]!))) rfl (fun _ => rfl) ?_
                simp only [Act.put, List.setIfInBounds_toArray, List.set_cons_zero, List.set_cons_succ]
                refine wl_nil ?_
                refine we_then ?_
                refine wc_region ?_
                refine wl_val (.bool true) rfl (fun _ => rfl) ?_
                simp only [Act.put, List.setIfInBounds_toArray, List.set_cons_zero, List.set_cons_succ]
                refine wl_val (.bool true) rfl (fun _ => rfl) ?_
                simp only [Act.put, List.setIfInBounds_toArray, List.set_cons_zero, List.set_cons_succ]
                refine wl_nil ?_
                refine we_in ?_
                refine we_then ?_
                refine wc_region ?_
                refine wl_val (.int .i64 ((i + 1 : Nat) : Int)) rfl (fun w => run_nat (X := i) (Y := 1) (Z := i + 1) rfl rfl rfl rfl (by omega) w) ?_
                simp only [Act.put, List.setIfInBounds_toArray, List.set_cons_zero, List.set_cons_succ]
                refine wl_val (.int .i64 ((i + 1 : Nat) : Int)) rfl (fun _ => rfl) ?_
                simp only [Act.put, List.setIfInBounds_toArray, List.set_cons_zero, List.set_cons_succ]
                refine wl_nil ?_
                exact we_meet ⟨(i + 1), (x + (L[i]!)), (y + (L[i]!)), true, (((x + (L[i]!)) % 65536) % 65536), _, _, _, _, _, _, _, _, _, _, _, _, _, _, _, _, _, _, _, _, _, _, _, _, _, _, _, _, _, _, _, _, _, _, _, _, _, _, _, _, _, _, _, _, _, _, _, _, _, _, _, _, _, _, _, _⟩ (by (try dsimp only); exact ⟨⟨by omega, by omega, by omega, by omega, by omega, by omega, by omega, fun h => by omega⟩, by omega⟩) rfl (List.Sublist.cons_cons _ List.Sublist.slnil)
            · skip
              refine wl_call 10 #[.agg #[.bool k, .int .u16 l, .int .i64 y], .int .i64 ((x + (L[i]!)) % 65536), .bool false] (.tuple #[.agg #[.bool false, .int .u16 l, .int .i64 y], .int .i64 0, .bool false]) rfl (fun _ => by go_simp) (fun W => next_none k l y ((x + (L[i]!)) % 65536) W (by omega) (fits_in (by omega) (by omega))) ?_
              simp only [Act.put, List.setIfInBounds_toArray, List.set_cons_zero, List.set_cons_succ]
              refine wl_val (.tuple #[.agg #[.bool false, .int .u16 l, .int .i64 y], .int .i64 0, .bool false]) rfl (fun _ => rfl) ?_
              simp only [Act.put, List.setIfInBounds_toArray, List.set_cons_zero, List.set_cons_succ]
              refine wl_val (.agg #[.bool false, .int .u16 l, .int .i64 y]) rfl (fun _ => by go_simp) ?_
              simp only [Act.put, List.setIfInBounds_toArray, List.set_cons_zero, List.set_cons_succ]
              refine wl_val (.int .i64 0) rfl (fun _ => by go_simp) ?_
              simp only [Act.put, List.setIfInBounds_toArray, List.set_cons_zero, List.set_cons_succ]
              refine wl_val (.bool false) rfl (fun _ => by go_simp) ?_
              simp only [Act.put, List.setIfInBounds_toArray, List.set_cons_zero, List.set_cons_succ]
              refine wl_store 0 28 (.tmp 7) (.tmp 58) (#[.bool false, .int .u16 l, .int .i64 y]) rfl rfl rfl rfl rfl (by kernel_rfl) rfl (by simp [Value.oneCell']) ?_
              simp only [Act.put, List.set_cons_zero]
              refine wl_val (.int .i64 0) rfl (fun _ => rfl) ?_
              simp only [Act.put, List.setIfInBounds_toArray, List.set_cons_zero, List.set_cons_succ]
              refine wl_val (.bool false) rfl (fun _ => rfl) ?_
              simp only [Act.put, List.setIfInBounds_toArray, List.set_cons_zero, List.set_cons_succ]
              refine wl_nil ?_
              refine we_then ?_
              refine wc_seq ?_
              refine wc_seq ?_
              refine wc_region ?_
              refine wl_val (.bool false) rfl (fun _ => rfl) ?_
              simp only [Act.put, List.setIfInBounds_toArray, List.set_cons_zero, List.set_cons_succ]
              refine wl_val (.bool k) rfl (fun _ => rfl) ?_
              simp only [Act.put, List.setIfInBounds_toArray, List.set_cons_zero, List.set_cons_succ]
              refine wl_val (.bool k) rfl (fun _ => rfl) ?_
              simp only [Act.put, List.setIfInBounds_toArray, List.set_cons_zero, List.set_cons_succ]
              cases h9 : (k)
              · skip
                refine wl_skip rfl ?_
                simp only [Act.put, List.setIfInBounds_toArray, List.set_cons_zero, List.set_cons_succ]
                refine wl_val (.bool false) rfl (fun _ => rfl) ?_
                simp only [Act.put, List.setIfInBounds_toArray, List.set_cons_zero, List.set_cons_succ]
                refine wl_val (.bool false) rfl (fun _ => by go_simp) ?_
                simp only [Act.put, List.setIfInBounds_toArray, List.set_cons_zero, List.set_cons_succ]
                refine wl_val (.bool false) rfl (fun _ => rfl) ?_
                simp only [Act.put, List.setIfInBounds_toArray, List.set_cons_zero, List.set_cons_succ]
                refine wl_val (.bool false) rfl (fun _ => rfl) ?_
                simp only [Act.put, List.setIfInBounds_toArray, List.set_cons_zero, List.set_cons_succ]
                refine wl_val (.bool false) rfl (fun _ => rfl) ?_
                simp only [Act.put, List.setIfInBounds_toArray, List.set_cons_zero, List.set_cons_succ]
                refine wl_skip rfl ?_
                simp only [Act.put, List.setIfInBounds_toArray, List.set_cons_zero, List.set_cons_succ]
                refine wl_skip rfl ?_
                simp only [Act.put, List.setIfInBounds_toArray, List.set_cons_zero, List.set_cons_succ]
                refine wl_skip rfl ?_
                simp only [Act.put, List.setIfInBounds_toArray, List.set_cons_zero, List.set_cons_succ]
                refine wl_skip rfl ?_
                simp only [Act.put, List.setIfInBounds_toArray, List.set_cons_zero, List.set_cons_succ]
                refine wl_val (.bool false) rfl (fun _ => rfl) ?_
                simp only [Act.put, List.setIfInBounds_toArray, List.set_cons_zero, List.set_cons_succ]
                refine wl_val (.bool false) rfl (fun _ => rfl) ?_
                simp only [Act.put, List.setIfInBounds_toArray, List.set_cons_zero, List.set_cons_succ]
                refine wl_nil ?_
                refine we_then ?_
                refine wc_false rfl ?_
                refine wc_skip ?_
                refine we_then ?_
                refine wc_seq ?_
                refine wc_seq ?_
                refine wc_region ?_
                refine wl_val (.bool false) rfl (fun _ => rfl) ?_
                simp only [Act.put, List.setIfInBounds_toArray, List.set_cons_zero, List.set_cons_succ]
                refine wl_nil ?_
                refine we_then ?_
                refine wc_false rfl ?_
                refine wc_skip ?_
                refine we_then ?_
                refine wc_region ?_
                refine wl_val (.bool false) rfl (fun _ => rfl) ?_
                simp only [Act.put, List.setIfInBounds_toArray, List.set_cons_zero, List.set_cons_succ]
                refine wl_val (.bool false) rfl (fun _ => rfl) ?_
                simp only [Act.put, List.setIfInBounds_toArray, List.set_cons_zero, List.set_cons_succ]
                refine wl_nil ?_
                refine we_in ?_
                refine we_then ?_
                refine wc_region ?_
                refine wl_val (.int .i64 ((i + 1 : Nat) : Int)) rfl (fun w => run_nat (X := i) (Y := 1) (Z := i + 1) rfl rfl rfl rfl (by omega) w) ?_
                simp only [Act.put, List.setIfInBounds_toArray, List.set_cons_zero, List.set_cons_succ]
                refine wl_val (.int .i64 ((i + 1 : Nat) : Int)) rfl (fun _ => rfl) ?_
                simp only [Act.put, List.setIfInBounds_toArray, List.set_cons_zero, List.set_cons_succ]
                refine wl_nil ?_
                exact we_meet ⟨(i + 1), (x + (L[i]!)), y, false, l, _, _, _, _, _, _, _, _, _, _, _, _, _, _, _, _, _, _, _, _, _, _, _, _, _, _, _, _, _, _, _, _, _, _, _, _, _, _, _, _, _, _, _, _, _, _, _, _, _, _, _, _, _, _, _, _⟩ (by (try dsimp only); exact ⟨⟨by omega, by omega, by omega, by omega, by omega, by omega, by omega, fun h => by cases h⟩, by omega⟩) rfl (List.Sublist.cons_cons _ List.Sublist.slnil)
              · skip
                refine wl_val (.bool false) rfl (fun _ => rfl) ?_
                simp only [Act.put, List.setIfInBounds_toArray, List.set_cons_zero, List.set_cons_succ]
                refine wl_val (.bool false) rfl (fun _ => rfl) ?_
                simp only [Act.put, List.setIfInBounds_toArray, List.set_cons_zero, List.set_cons_succ]
                refine wl_val (.bool false) rfl (fun _ => by go_simp) ?_
                simp only [Act.put, List.setIfInBounds_toArray, List.set_cons_zero, List.set_cons_succ]
                refine wl_val (.bool false) rfl (fun _ => rfl) ?_
                simp only [Act.put, List.setIfInBounds_toArray, List.set_cons_zero, List.set_cons_succ]
                refine wl_val (.bool false) rfl (fun _ => rfl) ?_
                simp only [Act.put, List.setIfInBounds_toArray, List.set_cons_zero, List.set_cons_succ]
                refine wl_val (.bool false) rfl (fun _ => rfl) ?_
                simp only [Act.put, List.setIfInBounds_toArray, List.set_cons_zero, List.set_cons_succ]
                refine wl_skip rfl ?_
                simp only [Act.put, List.setIfInBounds_toArray, List.set_cons_zero, List.set_cons_succ]
                refine wl_skip rfl ?_
                simp only [Act.put, List.setIfInBounds_toArray, List.set_cons_zero, List.set_cons_succ]
                refine wl_skip rfl ?_
                simp only [Act.put, List.setIfInBounds_toArray, List.set_cons_zero, List.set_cons_succ]
                refine wl_skip rfl ?_
                simp only [Act.put, List.setIfInBounds_toArray, List.set_cons_zero, List.set_cons_succ]
                refine wl_val (.bool false) rfl (fun _ => rfl) ?_
                simp only [Act.put, List.setIfInBounds_toArray, List.set_cons_zero, List.set_cons_succ]
                refine wl_val (.bool false) rfl (fun _ => rfl) ?_
                simp only [Act.put, List.setIfInBounds_toArray, List.set_cons_zero, List.set_cons_succ]
                refine wl_nil ?_
                refine we_then ?_
                refine wc_false rfl ?_
                refine wc_skip ?_
                refine we_then ?_
                refine wc_seq ?_
                refine wc_seq ?_
                refine wc_region ?_
                refine wl_val (.bool false) rfl (fun _ => rfl) ?_
                simp only [Act.put, List.setIfInBounds_toArray, List.set_cons_zero, List.set_cons_succ]
                refine wl_nil ?_
                refine we_then ?_
                refine wc_false rfl ?_
                refine wc_skip ?_
                refine we_then ?_
                refine wc_region ?_
                refine wl_val (.bool false) rfl (fun _ => rfl) ?_
                simp only [Act.put, List.setIfInBounds_toArray, List.set_cons_zero, List.set_cons_succ]
                refine wl_val (.bool false) rfl (fun _ => rfl) ?_
                simp only [Act.put, List.setIfInBounds_toArray, List.set_cons_zero, List.set_cons_succ]
                refine wl_nil ?_
                refine we_in ?_
                refine we_then ?_
                refine wc_region ?_
                refine wl_val (.int .i64 ((i + 1 : Nat) : Int)) rfl (fun w => run_nat (X := i) (Y := 1) (Z := i + 1) rfl rfl rfl rfl (by omega) w) ?_
                simp only [Act.put, List.setIfInBounds_toArray, List.set_cons_zero, List.set_cons_succ]
                refine wl_val (.int .i64 ((i + 1 : Nat) : Int)) rfl (fun _ => rfl) ?_
                simp only [Act.put, List.setIfInBounds_toArray, List.set_cons_zero, List.set_cons_succ]
                refine wl_nil ?_
                exact we_meet ⟨(i + 1), (x + (L[i]!)), y, false, l, _, _, _, _, _, _, _, _, _, _, _, _, _, _, _, _, _, _, _, _, _, _, _, _, _, _, _, _, _, _, _, _, _, _, _, _, _, _, _, _, _, _, _, _, _, _, _, _, _, _, _, _, _, _, _, _⟩ (by (try dsimp only); exact ⟨⟨by omega, by omega, by omega, by omega, by omega, by omega, by omega, fun h => by cases h⟩, by omega⟩) rfl (List.Sublist.cons_cons _ List.Sublist.slnil)
          · skip
            have p6 : (M.length : Int) ≤ (i : Int) := of_decide_eq_true h6
            refine wl_skip rfl ?_
            simp only [Act.put, List.setIfInBounds_toArray, List.set_cons_zero, List.set_cons_succ]
            refine wl_skip rfl ?_
            simp only [Act.put, List.setIfInBounds_toArray, List.set_cons_zero, List.set_cons_succ]
            refine wl_skip rfl ?_
            simp only [Act.put, List.setIfInBounds_toArray, List.set_cons_zero, List.set_cons_succ]
            refine wl_skip rfl ?_
            simp only [Act.put, List.setIfInBounds_toArray, List.set_cons_zero, List.set_cons_succ]
            refine wl_skip rfl ?_
            simp only [Act.put, List.setIfInBounds_toArray, List.set_cons_zero, List.set_cons_succ]
            refine wl_val (.bool true) rfl (fun _ => rfl) ?_
            simp only [Act.put, List.setIfInBounds_toArray, List.set_cons_zero, List.set_cons_succ]
            refine wl_val (.bool true) rfl (fun _ => rfl) ?_
            simp only [Act.put, List.setIfInBounds_toArray, List.set_cons_zero, List.set_cons_succ]
            refine wl_nil ?_
            refine we_then ?_
            refine wc_seq ?_
            refine wc_region ?_
            refine wl_val (.int .i64 0) rfl (fun _ => rfl) ?_
            simp only [Act.put, List.setIfInBounds_toArray, List.set_cons_zero, List.set_cons_succ]
            refine wl_nil ?_
            refine we_then ?_
            refine wc_seq ?_
            refine wc_region ?_
            refine wl_val (.bool false) rfl (fun _ => rfl) ?_
            simp only [Act.put, List.setIfInBounds_toArray, List.set_cons_zero, List.set_cons_succ]
            refine wl_nil ?_
            refine we_then ?_
            refine wc_seq ?_
            refine wc_region ?_
            refine wl_load 28 (.tmp 7) (own_row 0 rfl) rfl rfl rfl Try.underlying28 rfl (by kernel_rfl) ?_
            simp only [Act.put, List.setIfInBounds_toArray, List.set_cons_zero, List.set_cons_succ]
            refine wl_val (.int .i64 (x + (L[i]!))) rfl (fun _ => rfl) ?_
            simp only [Act.put, List.setIfInBounds_toArray, List.set_cons_zero, List.set_cons_succ]
            refine wl_val (.int .i64 ((x + (L[i]!)) % 65536)) rfl (fun w => run_and65535 rfl rfl rfl w) ?_
            simp only [Act.put, List.setIfInBounds_toArray, List.set_cons_zero, List.set_cons_succ]
            refine wl_val (.bool true) rfl (fun _ => rfl) ?_
            simp only [Act.put, List.setIfInBounds_toArray, List.set_cons_zero, List.set_cons_succ]
            cases h10 : (k)
            · skip
              refine wl_call 10 #[.agg #[.bool false, .int .u16 l, .int .i64 y], .int .i64 ((x + (L[i]!)) % 65536), .bool true] (.tuple #[.agg #[.bool true, .int .u16 (((x + (L[i]!)) % 65536) % 65536), .int .i64 y], .int .i64 0, .bool false]) rfl (fun _ => by go_simp) (fun W => next_new l y ((x + (L[i]!)) % 65536) W (by omega) (fits_in (by omega) (by omega))) ?_
              simp only [Act.put, List.setIfInBounds_toArray, List.set_cons_zero, List.set_cons_succ]
              refine wl_val (.tuple #[.agg #[.bool true, .int .u16 (((x + (L[i]!)) % 65536) % 65536), .int .i64 y], .int .i64 0, .bool false]) rfl (fun _ => rfl) ?_
              simp only [Act.put, List.setIfInBounds_toArray, List.set_cons_zero, List.set_cons_succ]
              refine wl_val (.agg #[.bool true, .int .u16 (((x + (L[i]!)) % 65536) % 65536), .int .i64 y]) rfl (fun _ => by go_simp) ?_
              simp only [Act.put, List.setIfInBounds_toArray, List.set_cons_zero, List.set_cons_succ]
              refine wl_val (.int .i64 0) rfl (fun _ => by go_simp) ?_
              simp only [Act.put, List.setIfInBounds_toArray, List.set_cons_zero, List.set_cons_succ]
              refine wl_val (.bool false) rfl (fun _ => by go_simp) ?_
              simp only [Act.put, List.setIfInBounds_toArray, List.set_cons_zero, List.set_cons_succ]
              refine wl_store 0 28 (.tmp 7) (.tmp 58) (#[.bool true, .int .u16 (((x + (L[i]!)) % 65536) % 65536), .int .i64 y]) rfl rfl rfl rfl rfl (by kernel_rfl) rfl (by simp [Value.oneCell']) ?_
              simp only [Act.put, List.set_cons_zero]
              refine wl_val (.int .i64 0) rfl (fun _ => rfl) ?_
              simp only [Act.put, List.setIfInBounds_toArray, List.set_cons_zero, List.set_cons_succ]
              refine wl_val (.bool false) rfl (fun _ => rfl) ?_
              simp only [Act.put, List.setIfInBounds_toArray, List.set_cons_zero, List.set_cons_succ]
              refine wl_nil ?_
              refine we_then ?_
              refine wc_seq ?_
              refine wc_seq ?_
              refine wc_region ?_
              refine wl_val (.bool false) rfl (fun _ => rfl) ?_
              simp only [Act.put, List.setIfInBounds_toArray, List.set_cons_zero, List.set_cons_succ]
              refine wl_val (.bool false) rfl (fun _ => rfl) ?_
              simp only [Act.put, List.setIfInBounds_toArray, List.set_cons_zero, List.set_cons_succ]
              refine wl_val (.bool false) rfl (fun _ => rfl) ?_
              simp only [Act.put, List.setIfInBounds_toArray, List.set_cons_zero, List.set_cons_succ]
              refine wl_skip rfl ?_
              simp only [Act.put, List.setIfInBounds_toArray, List.set_cons_zero, List.set_cons_succ]
              refine wl_val (.bool false) rfl (fun _ => rfl) ?_
              simp only [Act.put, List.setIfInBounds_toArray, List.set_cons_zero, List.set_cons_succ]
              refine wl_val (.bool false) rfl (fun _ => by go_simp) ?_
              simp only [Act.put, List.setIfInBounds_toArray, List.set_cons_zero, List.set_cons_succ]
              refine wl_val (.bool false) rfl (fun _ => rfl) ?_
              simp only [Act.put, List.setIfInBounds_toArray, List.set_cons_zero, List.set_cons_succ]
              refine wl_val (.bool false) rfl (fun _ => rfl) ?_
              simp only [Act.put, List.setIfInBounds_toArray, List.set_cons_zero, List.set_cons_succ]
              refine wl_val (.bool false) rfl (fun _ => rfl) ?_
              simp only [Act.put, List.setIfInBounds_toArray, List.set_cons_zero, List.set_cons_succ]
              refine wl_skip rfl ?_
              simp only [Act.put, List.setIfInBounds_toArray, List.set_cons_zero, List.set_cons_succ]
              refine wl_skip rfl ?_
              simp only [Act.put, List.setIfInBounds_toArray, List.set_cons_zero, List.set_cons_succ]
              refine wl_skip rfl ?_
              simp only [Act.put, List.setIfInBounds_toArray, List.set_cons_zero, List.set_cons_succ]
              refine wl_skip rfl ?_
              simp only [Act.put, List.setIfInBounds_toArray, List.set_cons_zero, List.set_cons_succ]
              refine wl_val (.bool false) rfl (fun _ => rfl) ?_
              simp only [Act.put, List.setIfInBounds_toArray, List.set_cons_zero, List.set_cons_succ]
              refine wl_val (.bool false) rfl (fun _ => rfl) ?_
              simp only [Act.put, List.setIfInBounds_toArray, List.set_cons_zero, List.set_cons_succ]
              refine wl_nil ?_
              refine we_then ?_
              refine wc_false rfl ?_
              refine wc_skip ?_
              refine we_then ?_
              refine wc_seq ?_
              refine wc_seq ?_
              refine wc_region ?_
              refine wl_val (.bool false) rfl (fun _ => rfl) ?_
              simp only [Act.put, List.setIfInBounds_toArray, List.set_cons_zero, List.set_cons_succ]
              refine wl_nil ?_
              refine we_then ?_
              refine wc_false rfl ?_
              refine wc_skip ?_
              refine we_then ?_
              refine wc_region ?_
              refine wl_val (.bool true) rfl (fun _ => rfl) ?_
              simp only [Act.put, List.setIfInBounds_toArray, List.set_cons_zero, List.set_cons_succ]
              refine wl_val (.bool true) rfl (fun _ => rfl) ?_
              simp only [Act.put, List.setIfInBounds_toArray, List.set_cons_zero, List.set_cons_succ]
              refine wl_nil ?_
              refine we_in ?_
              refine we_then ?_
              refine wc_region ?_
              refine wl_val (.int .i64 ((i + 1 : Nat) : Int)) rfl (fun w => run_nat (X := i) (Y := 1) (Z := i + 1) rfl rfl rfl rfl (by omega) w) ?_
              simp only [Act.put, List.setIfInBounds_toArray, List.set_cons_zero, List.set_cons_succ]
              refine wl_val (.int .i64 ((i + 1 : Nat) : Int)) rfl (fun _ => rfl) ?_
              simp only [Act.put, List.setIfInBounds_toArray, List.set_cons_zero, List.set_cons_succ]
              refine wl_nil ?_
              exact we_meet ⟨(i + 1), (x + (L[i]!)), y, true, (((x + (L[i]!)) % 65536) % 65536), _, _, _, _, _, _, _, _, _, _, _, _, _, _, _, _, _, _, _, _, _, _, _, _, _, _, _, _, _, _, _, _, _, _, _, _, _, _, _, _, _, _, _, _, _, _, _, _, _, _, _, _, _, _, _, _⟩ (by (try dsimp only); exact ⟨⟨by omega, by omega, by omega, by omega, by omega, by omega, by omega, fun h => by omega⟩, by omega⟩) rfl (List.Sublist.cons_cons _ List.Sublist.slnil)
            · skip
              refine wl_call 10 #[.agg #[.bool true, .int .u16 l, .int .i64 y], .int .i64 ((x + (L[i]!)) % 65536), .bool true] (.tuple #[.agg #[.bool true, .int .u16 (((x + (L[i]!)) % 65536) % 65536), .int .i64 (y + (L[i]!))], .int .i64 (L[i]!), .bool true]) rfl (fun _ => by go_simp) (fun W => next_told l y ((x + (L[i]!)) % 65536) (L[i]!) W (by omega) (fits_in (by omega) (by omega)) (by have b9 := b7 h10; exact dlt_of (by omega) (by omega) (by omega)) (fits_in (by omega) (by omega))) ?_
              simp only [Act.put, List.setIfInBounds_toArray, List.set_cons_zero, List.set_cons_succ]
              refine wl_val (.tuple #[.agg #[.bool true, .int .u16 (((x + (L[i]!)) % 65536) % 65536), .int .i64 (y + (L[i]!))], .int .i64 (L[i]!), .bool true]) rfl (fun _ => rfl) ?_
              simp only [Act.put, List.setIfInBounds_toArray, List.set_cons_zero, List.set_cons_succ]
              refine wl_val (.agg #[.bool true, .int .u16 (((x + (L[i]!)) % 65536) % 65536), .int .i64 (y + (L[i]!))]) rfl (fun _ => by go_simp) ?_
              simp only [Act.put, List.setIfInBounds_toArray, List.set_cons_zero, List.set_cons_succ]
              refine wl_val (.int .i64 (L[i]!)) rfl (fun _ => by go_simp) ?_
              simp only [Act.put, List.setIfInBounds_toArray, List.set_cons_zero, List.set_cons_succ]
              refine wl_val (.bool true) rfl (fun _ => by go_simp) ?_
              simp only [Act.put, List.setIfInBounds_toArray, List.set_cons_zero, List.set_cons_succ]
              refine wl_store 0 28 (.tmp 7) (.tmp 58) (#[.bool true, .int .u16 (((x + (L[i]!)) % 65536) % 65536), .int .i64 (y + (L[i]!))]) rfl rfl rfl rfl rfl (by kernel_rfl) rfl (by simp [Value.oneCell']) ?_
              simp only [Act.put, List.set_cons_zero]
              refine wl_val (.int .i64 (L[i]!)) rfl (fun _ => rfl) ?_
              simp only [Act.put, List.setIfInBounds_toArray, List.set_cons_zero, List.set_cons_succ]
              refine wl_val (.bool true) rfl (fun _ => rfl) ?_
              simp only [Act.put, List.setIfInBounds_toArray, List.set_cons_zero, List.set_cons_succ]
              refine wl_nil ?_
              refine we_then ?_
              refine wc_seq ?_
              refine wc_seq ?_
              refine wc_region ?_
              refine wl_val (.bool true) rfl (fun _ => rfl) ?_
              simp only [Act.put, List.setIfInBounds_toArray, List.set_cons_zero, List.set_cons_succ]
              refine wl_val (.bool true) rfl (fun _ => rfl) ?_
              simp only [Act.put, List.setIfInBounds_toArray, List.set_cons_zero, List.set_cons_succ]
              refine wl_val (.bool true) rfl (fun _ => rfl) ?_
              simp only [Act.put, List.setIfInBounds_toArray, List.set_cons_zero, List.set_cons_succ]
              refine wl_val (.bool true) rfl (fun _ => rfl) ?_
              simp only [Act.put, List.setIfInBounds_toArray, List.set_cons_zero, List.set_cons_succ]
              refine wl_val (.bool true) rfl (fun _ => rfl) ?_
              simp only [Act.put, List.setIfInBounds_toArray, List.set_cons_zero, List.set_cons_succ]
              refine wl_val (.bool false) rfl (fun _ => by go_simp) ?_
              simp only [Act.put, List.setIfInBounds_toArray, List.set_cons_zero, List.set_cons_succ]
              refine wl_val (.bool false) rfl (fun _ => rfl) ?_
              simp only [Act.put, List.setIfInBounds_toArray, List.set_cons_zero, List.set_cons_succ]
              refine wl_val (.bool true) rfl (fun _ => rfl) ?_
              simp only [Act.put, List.setIfInBounds_toArray, List.set_cons_zero, List.set_cons_succ]
              refine wl_val (.bool true) rfl (fun _ => rfl) ?_
              simp only [Act.put, List.setIfInBounds_toArray, List.set_cons_zero, List.set_cons_succ]
              refine wl_val (.int .i64 (L[i]!)) rfl (fun _ => rfl) ?_
              simp only [Act.put, List.setIfInBounds_toArray, List.set_cons_zero, List.set_cons_succ]
              refine wl_val (.int .i16 (L[i]!)) rfl (fun _ => rfl) ?_
              simp only [Act.put, List.setIfInBounds_toArray, List.set_cons_zero, List.set_cons_succ]
              refine wl_val (.int .i64 (L[i]!)) rfl (fun w => Sw.run_conv rfl rfl Try.underlying42 Try.underlying2 (i64_in (by omega) (by omega)) w) ?_
              simp only [Act.put, List.setIfInBounds_toArray, List.set_cons_zero, List.set_cons_succ]
              refine wl_val (.bool false) rfl (fun w => run_cmp (b := false) rfl rfl rfl Try.underlying2 (by simp [cmpOf]) w) ?_
              simp only [Act.put, List.setIfInBounds_toArray, List.set_cons_zero, List.set_cons_succ]
              refine wl_val (.bool false) rfl (fun _ => rfl) ?_
              simp only [Act.put, List.setIfInBounds_toArray, List.set_cons_zero, List.set_cons_succ]
              refine wl_val (.bool false) rfl (fun _ => rfl) ?_
              simp only [Act.put, List.setIfInBounds_toArray, List.set_cons_zero, List.set_cons_succ]
              refine wl_nil ?_
              refine we_then ?_
              refine wc_false rfl ?_
              refine wc_skip ?_
              refine we_then ?_
              refine wc_seq ?_
              refine wc_seq ?_
              refine wc_region ?_
              refine wl_val (.bool true) rfl (fun _ => rfl) ?_
              simp only [Act.put, List.setIfInBounds_toArray, List.set_cons_zero, List.set_cons_succ]
              refine wl_nil ?_
              refine we_then ?_
              refine wc_true rfl ?_
              refine wc_region ?_
              refine wl_val (.int .i64 y) rfl (fun _ => rfl) ?_
              simp only [Act.put, List.setIfInBounds_toArray, List.set_cons_zero, List.set_cons_succ]
              refine wl_val (.int .i16 (L[i]!)) rfl (fun _ => rfl) ?_
              simp only [Act.put, List.setIfInBounds_toArray, List.set_cons_zero, List.set_cons_succ]
              refine wl_val (.int .i64 (L[i]!)) rfl (fun w => Sw.run_conv rfl rfl Try.underlying42 Try.underlying2 (i64_in (by omega) (by omega)) w) ?_
              simp only [Act.put, List.setIfInBounds_toArray, List.set_cons_zero, List.set_cons_succ]
              refine wl_val (.int .i64 (y + (L[i]!))) rfl (fun w => run_arith (op := .add) rfl rfl rfl Try.underlying2 (congrArg some (i64_in (by omega) (by omega))) w) ?_
              simp only [Act.put, List.setIfInBounds_toArray, List.set_cons_zero, List.set_cons_succ]
              refine wl_val (.int .i64 (y + (L[i]!))) rfl (fun _ => rfl) ?_
              simp only [Act.put, List.setIfInBounds_toArray, List.set_cons_zero, List.set_cons_succ]
              refine wl_nil ?_
              refine we_then ?_
              refine wc_region ?_
              refine wl_val (.bool true) rfl (fun _ => rfl) ?_
              simp only [Act.put, List.setIfInBounds_toArray, List.set_cons_zero, List.set_cons_succ]
              refine wl_val (.bool true) rfl (fun _ => rfl) ?_
              simp only [Act.put, List.setIfInBounds_toArray, List.set_cons_zero, List.set_cons_succ]
              refine wl_nil ?_
              refine we_in ?_
              refine we_then ?_
              refine wc_region ?_
              refine wl_val (.int .i64 ((i + 1 : Nat) : Int)) rfl (fun w => run_nat (X := i) (Y := 1) (Z := i + 1) rfl rfl rfl rfl (by omega) w) ?_
              simp only [Act.put, List.setIfInBounds_toArray, List.set_cons_zero, List.set_cons_succ]
              refine wl_val (.int .i64 ((i + 1 : Nat) : Int)) rfl (fun _ => rfl) ?_
              simp only [Act.put, List.setIfInBounds_toArray, List.set_cons_zero, List.set_cons_succ]
              refine wl_nil ?_
              exact we_meet ⟨(i + 1), (x + (L[i]!)), (y + (L[i]!)), true, (((x + (L[i]!)) % 65536) % 65536), _, _, _, _, _, _, _, _, _, _, _, _, _, _, _, _, _, _, _, _, _, _, _, _, _, _, _, _, _, _, _, _, _, _, _, _, _, _, _, _, _, _, _, _, _, _, _, _, _, _, _, _, _, _, _, _⟩ (by (try dsimp only); exact ⟨⟨by omega, by omega, by omega, by omega, by omega, by omega, by omega, fun h => by omega⟩, by omega⟩) rfl (List.Sublist.cons_cons _ List.Sublist.slnil)
      · skip
        have p3 : 1099511627776 < s := of_decide_eq_true h3
        refine wc_true rfl ?_
        refine wc_seq ?_
        refine wc_region ?_
        refine wl_val (.bool true) rfl (fun _ => rfl) ?_
        simp only [Act.put, List.setIfInBounds_toArray, List.set_cons_zero, List.set_cons_succ]
        refine wl_nil ?_
        refine we_then ?_
        refine wc_ret ?_
        refine we_then_ret ?_
        refine we_ret1 (.bool true) rfl rfl rfl (fun w1 hE => ?_)
        exact ⟨rfl, hE.below⟩
    · skip
      have p2 : s < -1099511627776 := of_decide_eq_true h2
      refine wl_skip rfl ?_
      simp only [Act.put, List.setIfInBounds_toArray, List.set_cons_zero, List.set_cons_succ]
      refine wl_skip rfl ?_
      simp only [Act.put, List.setIfInBounds_toArray, List.set_cons_zero, List.set_cons_succ]
      refine wl_val (.bool true) rfl (fun _ => rfl) ?_
      simp only [Act.put, List.setIfInBounds_toArray, List.set_cons_zero, List.set_cons_succ]
      refine wl_nil ?_
      refine we_then ?_
      refine wc_true rfl ?_
      refine wc_seq ?_
      refine wc_region ?_
      refine wl_val (.bool true) rfl (fun _ => rfl) ?_
      simp only [Act.put, List.setIfInBounds_toArray, List.set_cons_zero, List.set_cons_succ]
      refine wl_nil ?_
      refine we_then ?_
      refine wc_ret ?_
      refine we_then_ret ?_
      refine we_ret1 (.bool true) rfl rfl rfl (fun w1 hE => ?_)
      exact ⟨rfl, hE.below⟩
  · skip
    have p1 : 500 < (L.length : Int) := of_decide_eq_true h1
    refine wl_skip rfl ?_
    simp only [Act.put, List.setIfInBounds_toArray, List.set_cons_zero, List.set_cons_succ]
    refine wl_skip rfl ?_
    simp only [Act.put, List.setIfInBounds_toArray, List.set_cons_zero, List.set_cons_succ]
    refine wl_val (.bool true) rfl (fun _ => rfl) ?_
    simp only [Act.put, List.setIfInBounds_toArray, List.set_cons_zero, List.set_cons_succ]
    refine wl_val (.bool true) rfl (fun _ => rfl) ?_
    simp only [Act.put, List.setIfInBounds_toArray, List.set_cons_zero, List.set_cons_succ]
    refine wl_skip rfl ?_
    simp only [Act.put, List.setIfInBounds_toArray, List.set_cons_zero, List.set_cons_succ]
    refine wl_skip rfl ?_
    simp only [Act.put, List.setIfInBounds_toArray, List.set_cons_zero, List.set_cons_succ]
    refine wl_val (.bool true) rfl (fun _ => rfl) ?_
    simp only [Act.put, List.setIfInBounds_toArray, List.set_cons_zero, List.set_cons_succ]
    refine wl_nil ?_
    refine we_then ?_
    refine wc_true rfl ?_
    refine wc_seq ?_
    refine wc_region ?_
    refine wl_val (.bool true) rfl (fun _ => rfl) ?_
    simp only [Act.put, List.setIfInBounds_toArray, List.set_cons_zero, List.set_cons_succ]
    refine wl_nil ?_
    refine we_then ?_
    refine wc_ret ?_
    refine we_then_ret ?_
    refine we_ret1 (.bool true) rfl rfl rfl (fun w1 hE => ?_)
    exact ⟨rfl, hE.below⟩
end Go.Proofs.Ytnlcchelepnknaa.Walks
