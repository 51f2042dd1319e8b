/-
  Package mail and its reference: their contracts. Condition: at most a thousand texts, each of at most 300 bytes.
-/
import Derived.Test.YtggdmchhnnjfiaaMl
import Derived.Test.YtggdmchhnnjfiaaSi
import Derived.Test.YtggdmchhnnjfiaaFrm
import Derived.Test.YtggdmchhnnjfiaaFref
namespace Go.Proofs.Ytggdmchhnnjfiaa.Mal
open Go.ChangeShapes Go.WideShapes Go.ChangeAt Go.RowKit
open Arr Steady Sx Sw Sl Sb Sc Cr Fr Ml Si
set_option linter.unusedVariables false
set_option linter.unusedSimpArgs false
set_option maxRecDepth 100000

set_option maxHeartbeats 2000000 in
theorem sort_any (cy : Int) (T : List Tx) (p : Option Addr) (n c : Nat) (M : Ml) (w : World) (hl : T.length = n) (hS : Reads w p (flat tx T)) (hT : OkT w T) (hs3 : Short T) (hn : n ≤ 1000) (hc : n ≤ c) (hM : sort (cy % 256) (ls T) = M) :
    Calls Try.prog 10 #[.int .i64 cy, .slice p n c] w fun e w' => e = .returned (.agg (mcells M (n - 32)).toArray) ∧ Below w.heap.size w w' := by
  obtain ⟨U, hU⟩ : ∃ U, T.take (n - (n - 32)) = U := ⟨_, rfl⟩
  have lpU : U.length = n - (n - 32) := by rw [← hU, List.length_take]; omega
  have okU : OkT w U := by rw [← hU]; exact ok_take _ hT
  have shU : Short U := by rw [← hU]; exact short_take _ hs3
  refine calls_sx Try.func10 rfl ?_
  simp only [Try.ntmps10, List.size_toArray, List.length_cons, List.length_nil, Nat.reduceAdd, Nat.reduceSub, Array.replicate_succ, Array.replicate_zero, List.push_toArray, List.append_toArray, List.nil_append, List.cons_append]
  refine wc_seq ?_
  refine wc_region ?_
  refine wl_new 28 (#[.bool false, .bool false, .bool false, .bool false, .bool false, .bool false, .int .i64 0, .int .i64 0, .int .i64 0, .int .i64 0, .int .i64 0, .int .i64 0, .int .i64 0, .int .i64 0, .int .i64 0, .int .i64 0]) rfl (fun _ => by go_simp) ?_
  intro g1
  simp only [Act.put, List.setIfInBounds_toArray, List.set_cons_zero, List.set_cons_succ]
  refine wl_nil ?_
  refine we_then ?_
  refine wc_seq ?_
  refine wc_region ?_
  refine wl_val (.slice p n c) rfl (fun _ => rfl) ?_
  simp only [Act.put, List.setIfInBounds_toArray, List.set_cons_zero, List.set_cons_succ]
  refine wl_val (.int .i64 (n : Int)) rfl (fun w => er_len rfl rfl Try.underlying22 w) ?_
  simp only [Act.put, List.setIfInBounds_toArray, List.set_cons_zero, List.set_cons_succ]
  refine wl_val (.int .i64 ((n : Int) - 32)) rfl (fun w => run_arith (op := .sub) rfl rfl rfl Try.underlying3 (congrArg some (i64_in (by omega) (by omega))) w) ?_
  simp only [Act.put, List.setIfInBounds_toArray, List.set_cons_zero, List.set_cons_succ]
  refine wl_val (.int .i64 ((n - 32 : Nat) : Int)) rfl (fun w => run_max2 (Z := ((n - 32 : Nat) : Int)) rfl rfl rfl (by omega) w) ?_
  simp only [Act.put, List.setIfInBounds_toArray, List.set_cons_zero, List.set_cons_succ]
  refine wl_val (.agg #[.bool false, .bool false, .bool false, .bool false, .bool false, .bool false, .int .i64 0, .int .i64 0, .int .i64 0, .int .i64 0, .int .i64 0, .int .i64 0, .int .i64 0, .int .i64 0, .int .i64 0, .int .i64 ((n - 32 : Nat) : Int)]) rfl (fun _ => by go_simp) ?_
  simp only [Act.put, List.setIfInBounds_toArray, List.set_cons_zero, List.set_cons_succ]
  refine wl_new 28 (#[.bool false, .bool false, .bool false, .bool false, .bool false, .bool false, .int .i64 0, .int .i64 0, .int .i64 0, .int .i64 0, .int .i64 0, .int .i64 0, .int .i64 0, .int .i64 0, .int .i64 0, .int .i64 0]) rfl (fun _ => by go_simp) ?_
  intro g2
  simp only [Act.put, List.setIfInBounds_toArray, List.set_cons_zero, List.set_cons_succ]
  refine wl_store 0 28 (.tmp 5) (.tmp 15) (#[.bool false, .bool false, .bool false, .bool false, .bool false, .bool false, .int .i64 0, .int .i64 0, .int .i64 0, .int .i64 0, .int .i64 0, .int .i64 0, .int .i64 0, .int .i64 0, .int .i64 0, .int .i64 ((n - 32 : Nat) : Int)]) rfl rfl rfl rfl rfl (by kernel_rfl) rfl (by simp [Value.oneCell']) ?_
  simp only [Act.put, List.set_cons_zero]
  refine wl_nil ?_
  refine we_then ?_
  refine wc_seq ?_
  refine wc_region ?_
  refine wl_val (.int .i64 cy) rfl (fun _ => rfl) ?_
  simp only [Act.put, List.setIfInBounds_toArray, List.set_cons_zero, List.set_cons_succ]
  refine wl_val (.int .i64 (cy % 256)) rfl (fun w => run_and255 rfl rfl rfl w) ?_
  simp only [Act.put, List.setIfInBounds_toArray, List.set_cons_zero, List.set_cons_succ]
  refine wl_val (.int .i64 (cy % 256)) rfl (fun _ => rfl) ?_
  simp only [Act.put, List.setIfInBounds_toArray, List.set_cons_zero, List.set_cons_succ]
  refine wl_nil ?_
  refine we_then ?_
  refine wc_seq ?_
  refine wc_seq ?_
  refine wc_region ?_
  refine wl_val (.slice p n c) rfl (fun _ => rfl) ?_
  simp only [Act.put, List.setIfInBounds_toArray, List.set_cons_zero, List.set_cons_succ]
  refine wl_val (.slice p n c) rfl (fun _ => rfl) ?_
  simp only [Act.put, List.setIfInBounds_toArray, List.set_cons_zero, List.set_cons_succ]
  refine wl_val (.int .i64 (n : Int)) rfl (fun w => er_len rfl rfl Try.underlying22 w) ?_
  simp only [Act.put, List.setIfInBounds_toArray, List.set_cons_zero, List.set_cons_succ]
  refine wl_val (.pointer (some ⟨g2, 15, none⟩)) rfl (fun _ => by go_simp) ?_
  simp only [Act.put, List.setIfInBounds_toArray, List.set_cons_zero, List.set_cons_succ]
  refine wl_cell 3 (.tmp 21) (.int .i64 ((n - 32 : Nat) : Int)) (own_row 0 rfl) rfl rfl rfl rfl Try.isAgg3 ?_
  simp only [Act.put, List.setIfInBounds_toArray, List.set_cons_zero, List.set_cons_succ]
  refine wl_val (.int .i64 ((n - (n - 32) : Nat) : Int)) rfl (fun w => run_nat (X := n) (Y := n - 32) (Z := n - (n - 32)) rfl rfl rfl (natOf_sub (by omega)) (by omega) w) ?_
  simp only [Act.put, List.setIfInBounds_toArray, List.set_cons_zero, List.set_cons_succ]
  refine wl_val (.slice p (n - (n - 32)) c) rfl (fun w => er_take (h := n - (n - 32)) rfl rfl rfl rfl (by omega) Try.underlying22 (by kernel_rfl) w) ?_
  simp only [Act.put, List.setIfInBounds_toArray, List.set_cons_zero, List.set_cons_succ]
  refine wl_val (.int .i64 ((n - (n - 32) : Nat) : Int)) rfl (fun w => er_len rfl rfl Try.underlying22 w) ?_
  simp only [Act.put, List.setIfInBounds_toArray, List.set_cons_zero, List.set_cons_succ]
  refine wl_val (.int .i64 0) rfl (fun _ => rfl) ?_
  simp only [Act.put, List.setIfInBounds_toArray, List.set_cons_zero, List.set_cons_succ]
  refine wl_nil ?_
  refine we_then ?_
  refine wc_block ?_
  refine wc_loop (fun (zz : Nat × Ml × Value × Value × Value × Value × Value × Value × Value × Value × Value × Value × Value × Value × Value × Value × Value × Value × Value × Value × Value × Value × Value × Value × Value × Value × Value × Value × Value × Value × Value × Value × Value × Value × Value × Value × Value × Value × Value × Value × Value × Value × Value × Value × Value × Value × Value × Value × Value × Value) => match zz with | ⟨i, m, u8, u9, u10, u27, u28, u29, u30, u31, u32, u33, u34, u35, u36, u37, u38, u39, u40, u41, u42, u43, u44, u45, u46, u47, u48, u49, u50, u51, u52, u53, u54, u55, u56, u57, u58, u59, u60, u61, u62, u63, u64, u65, u66, u67, u68, u69, u70, u71⟩ => ({ tmps := #[.int .i64 cy, .slice p n c, undef, undef, .pointer (some ⟨g1, 0, none⟩), .pointer (some ⟨g2, 0, none⟩), .int .i64 (cy % 256), undef, u8, u9, u10, .slice p n c, .int .i64 (n : Int), .int .i64 ((n : Int) - 32), .int .i64 ((n - 32 : Nat) : Int), .agg #[.bool false, .bool false, .bool false, .bool false, .bool false, .bool false, .int .i64 0, .int .i64 0, .int .i64 0, .int .i64 0, .int .i64 0, .int .i64 0, .int .i64 0, .int .i64 0, .int .i64 0, .int .i64 ((n - 32 : Nat) : Int)], .int .i64 cy, .int .i64 (cy % 256), .slice p n c, .slice p n c, .int .i64 (n : Int), .pointer (some ⟨g2, 15, none⟩), .int .i64 ((n - 32 : Nat) : Int), .int .i64 ((n - (n - 32) : Nat) : Int), .slice p (n - (n - 32)) c, .int .i64 ((n - (n - 32) : Nat) : Int), .int .i64 (i : Int), u27, u28, u29, u30, u31, u32, u33, u34, u35, u36, u37, u38, u39, u40, u41, u42, u43, u44, u45, u46, u47, u48, u49, u50, u51, u52, u53, u54, u55, u56, u57, u58, u59, u60, u61, u62, u63, u64, u65, u66, u67, u68, u69, u70, u71, undef], defers := [] } : Act)) (fun (zz : Nat × Ml × Value × Value × Value × Value × Value × Value × Value × Value × Value × Value × Value × Value × Value × Value × Value × Value × Value × Value × Value × Value × Value × Value × Value × Value × Value × Value × Value × Value × Value × Value × Value × Value × Value × Value × Value × Value × Value × Value × Value × Value × Value × Value × Value × Value × Value × Value × Value × Value) => match zz with | ⟨i, m, u8, u9, u10, u27, u28, u29, u30, u31, u32, u33, u34, u35, u36, u37, u38, u39, u40, u41, u42, u43, u44, u45, u46, u47, u48, u49, u50, u51, u52, u53, u54, u55, u56, u57, u58, u59, u60, u61, u62, u63, u64, u65, u66, u67, u68, u69, u70, u71⟩ => [⟨g2, (mcells m (n - 32)).toArray, 28⟩, ⟨g1, #[.bool false, .bool false, .bool false, .bool false, .bool false, .bool false, .int .i64 0, .int .i64 0, .int .i64 0, .int .i64 0, .int .i64 0, .int .i64 0, .int .i64 0, .int .i64 0, .int .i64 0, .int .i64 0], 28⟩]) (fun (zz : Nat × Ml × Value × Value × Value × Value × Value × Value × Value × Value × Value × Value × Value × Value × Value × Value × Value × Value × Value × Value × Value × Value × Value × Value × Value × Value × Value × Value × Value × Value × Value × Value × Value × Value × Value × Value × Value × Value × Value × Value × Value × Value × Value × Value × Value × Value × Value × Value × Value × Value) => match zz with | ⟨i, m, u8, u9, u10, u27, u28, u29, u30, u31, u32, u33, u34, u35, u36, u37, u38, u39, u40, u41, u42, u43, u44, u45, u46, u47, u48, u49, u50, u51, u52, u53, u54, u55, u56, u57, u58, u59, u60, u61, u62, u63, u64, u65, u66, u67, u68, u69, u70, u71⟩ => i ≤ n - (n - 32) ∧ m = run (cy % 256) m0 (ls (U.take i)) ∧ m.bad ≤ i ∧ m.stale ≤ i ∧ m.twice ≤ i) (fun (zz : Nat × Ml × Value × Value × Value × Value × Value × Value × Value × Value × Value × Value × Value × Value × Value × Value × Value × Value × Value × Value × Value × Value × Value × Value × Value × Value × Value × Value × Value × Value × Value × Value × Value × Value × Value × Value × Value × Value × Value × Value × Value × Value × Value × Value × Value × Value × Value × Value × Value × Value) => match zz with | ⟨i, m, u8, u9, u10, u27, u28, u29, u30, u31, u32, u33, u34, u35, u36, u37, u38, u39, u40, u41, u42, u43, u44, u45, u46, u47, u48, u49, u50, u51, u52, u53, u54, u55, u56, u57, u58, u59, u60, u61, u62, u63, u64, u65, u66, u67, u68, u69, u70, u71⟩ => n - (n - 32) - i) ⟨0, m0, _, _, _, _, _, _, _, _, _, _, _, _, _, _, _, _, _, _, _, _, _, _, _, _, _, _, _, _, _, _, _, _, _, _, _, _, _, _, _, _, _, _, _, _, _, _, _, _⟩ ⟨Nat.zero_le _, (by simp [run, ls]), Nat.le_refl _, Nat.le_refl _, Nat.le_refl _⟩ rfl (List.Sublist.cons_cons _ (List.Sublist.cons_cons _ List.Sublist.slnil)) ?_
  rintro ⟨i, m, u8, u9, u10, u27, u28, u29, u30, u31, u32, u33, u34, u35, u36, u37, u38, u39, u40, u41, u42, u43, u44, u45, u46, u47, u48, u49, u50, u51, u52, u53, u54, u55, u56, u57, u58, u59, u60, u61, u62, u63, u64, u65, u66, u67, u68, u69, u70, u71⟩ hφ
  (try dsimp only at hφ ⊢)
  obtain ⟨b1, b2, b3, b4, b5⟩ := hφ
  refine wc_seq ?_
  refine wc_region ?_
  refine wl_val (.bool (decide ((i : Int) < ((n - (n - 32) : Nat) : Int)))) rfl (fun w => run_cmp rfl rfl rfl Try.underlying3 rfl w) ?_
  simp only [Act.put, List.setIfInBounds_toArray, List.set_cons_zero, List.set_cons_succ]
  refine wl_nil ?_
  refine we_then ?_
  refine wc_seq ?_
  cases h3 : (decide ((i : Int) < ((n - (n - 32) : Nat) : Int)))
  · skip
    have p3 : ¬ ((i : Int) < ((n - (n - 32) : Nat) : Int)) := of_decide_eq_false h3
    refine wc_false rfl ?_
    refine wc_exit ?_
    refine we_then_exit ?_
    refine we_then_exit ?_
    refine we_in_here ?_
    refine we_then ?_
    refine wc_seq ?_
    refine wc_region ?_
    refine wl_load 28 (.tmp 5) (own_row 0 rfl) rfl rfl rfl Try.underlying28 rfl (by kernel_rfl) ?_
    simp only [Act.put, List.setIfInBounds_toArray, List.set_cons_zero, List.set_cons_succ]
    refine wl_store 1 28 (.tmp 4) (.tmp 72) ((mcells m (n - 32)).toArray) rfl rfl rfl rfl rfl (by kernel_rfl) rfl (mrow_one _ _ _ _ _ _) ?_
    simp only [Act.put, List.set_cons_zero, List.set_cons_succ]
    refine wl_nil ?_
    refine we_then ?_
    refine wc_ret ?_
    refine we_ret_cell (own_row 1 rfl) rfl rfl rfl Try.underlying28 rfl (by kernel_rfl) (fun w1 hE => ?_)
    obtain rfl : m = M := (run_end1 _ T U i n hl hU (by omega) b2).trans hM
    exact ⟨rfl, hE.below⟩
  · skip
    have p3 : (i : Int) < ((n - (n - 32) : Nat) : Int) := of_decide_eq_true h3
    have q0 : i < U.length := by omega
    have q1 := ok_cap okU q0
    have q2 := short_at shU q0
    have q3 := kn_lt (U[i]!).L
    refine wc_true rfl ?_
    refine wc_skip ?_
    refine we_then ?_
    refine wc_seq ?_
    refine wc_block ?_
    refine wc_seq ?_
    refine wc_region ?_
    refine wl_read (eaddr p (i * 1)) rfl (er_index i 1 (sl_tx_take_eq (n - (n - 32)) hU (sl_old hS)) rfl rfl rfl rfl (by omega) (tx_len1 lpU) (by decide) Try.underlying22 (by kernel_rfl)) ?_
    simp only [Act.put, List.setIfInBounds_toArray, List.set_cons_zero, List.set_cons_succ]
    refine wl_read (.slice ((U[i]!).p) ((U[i]!).L.length) ((U[i]!).c)) rfl (er_cell (i * 1) (.slice ((U[i]!).p) ((U[i]!).L.length) ((U[i]!).c)) (sl_tx_take_eq (n - (n - 32)) hU (sl_old hS)) rfl rfl (flat_cell (enc := tx) (fun _ => rfl) U i 0 (by omega) (by decide)) Try.isAgg45) ?_
    simp only [Act.put, List.setIfInBounds_toArray, List.set_cons_zero, List.set_cons_succ]
    refine wl_val (.slice ((U[i]!).p) ((U[i]!).L.length) ((U[i]!).c)) rfl (fun _ => rfl) ?_
    simp only [Act.put, List.setIfInBounds_toArray, List.set_cons_zero, List.set_cons_succ]
    refine wl_nil ?_
    refine we_then ?_
    refine wc_seq ?_
    refine wc_region ?_
    refine wl_val (.slice ((U[i]!).p) ((U[i]!).L.length) ((U[i]!).c)) rfl (fun _ => rfl) ?_
    simp only [Act.put, List.setIfInBounds_toArray, List.set_cons_zero, List.set_cons_succ]
    refine wl_call_at 16 #[.slice ((U[i]!).p) ((U[i]!).L.length) ((U[i]!).c)] (.tuple #[.agg #[.int .i64 ((getF ((U[i]!).L)).1), .int .i64 ((getF ((U[i]!).L)).2.1), .int .i64 ((getF ((U[i]!).L)).2.2)], .int .i64 ((getE ((U[i]!).L) : Nat) : Int)]) rfl (fun _ => by go_simp) (fun W hE => Frm.get_at ((U[i]!).L) _ _ _ W rfl ((sl_old (ok_reads okU q0)) W hE) (by omega) (by omega)) ?_
    simp only [Act.put, List.setIfInBounds_toArray, List.set_cons_zero, List.set_cons_succ]
    refine wl_val (.tuple #[.agg #[.int .i64 ((getF ((U[i]!).L)).1), .int .i64 ((getF ((U[i]!).L)).2.1), .int .i64 ((getF ((U[i]!).L)).2.2)], .int .i64 ((getE ((U[i]!).L) : Nat) : Int)]) rfl (fun _ => rfl) ?_
    simp only [Act.put, List.setIfInBounds_toArray, List.set_cons_zero, List.set_cons_succ]
    refine wl_val (.agg #[.int .i64 ((getF ((U[i]!).L)).1), .int .i64 ((getF ((U[i]!).L)).2.1), .int .i64 ((getF ((U[i]!).L)).2.2)]) rfl (fun _ => by go_simp) ?_
    simp only [Act.put, List.setIfInBounds_toArray, List.set_cons_zero, List.set_cons_succ]
    refine wl_val (.int .i64 ((getE ((U[i]!).L) : Nat) : Int)) rfl (fun _ => by go_simp) ?_
    simp only [Act.put, List.setIfInBounds_toArray, List.set_cons_zero, List.set_cons_succ]
    refine wl_new 43 (#[.int .i64 0, .int .i64 0, .int .i64 0]) rfl (fun _ => by go_simp) ?_
    intro g4
    simp only [Act.put, List.setIfInBounds_toArray, List.set_cons_zero, List.set_cons_succ]
    refine wl_store 0 43 (.tmp 9) (.tmp 33) (#[.int .i64 ((getF ((U[i]!).L)).1), .int .i64 ((getF ((U[i]!).L)).2.1), .int .i64 ((getF ((U[i]!).L)).2.2)]) rfl rfl rfl rfl rfl (by kernel_rfl) rfl (by simp [Value.oneCell']) ?_
    simp only [Act.put, List.set_cons_zero]
    refine wl_val (.int .i64 ((getE ((U[i]!).L) : Nat) : Int)) rfl (fun _ => rfl) ?_
    simp only [Act.put, List.setIfInBounds_toArray, List.set_cons_zero, List.set_cons_succ]
    refine wl_nil ?_
    refine we_then ?_
    refine wc_block ?_
    refine wc_seq ?_
    refine wc_region ?_
    refine wl_val (.int .i64 ((getE ((U[i]!).L) : Nat) : Int)) rfl (fun _ => rfl) ?_
    simp only [Act.put, List.setIfInBounds_toArray, List.set_cons_zero, List.set_cons_succ]
    refine wl_val (.bool (((getE ((U[i]!).L) : Nat) : Int) != 0)) rfl (fun w => run_cmp rfl rfl rfl Try.underlying46 rfl w) ?_
    simp only [Act.put, List.setIfInBounds_toArray, List.set_cons_zero, List.set_cons_succ]
    refine wl_val (.bool (((getE ((U[i]!).L) : Nat) : Int) != 0)) rfl (fun _ => rfl) ?_
    simp only [Act.put, List.setIfInBounds_toArray, List.set_cons_zero, List.set_cons_succ]
    refine wl_nil ?_
    refine we_then ?_
    cases h5 : (((getE ((U[i]!).L) : Nat) : Int) != 0)
    · skip
      have p5 : ¬ (((getE ((U[i]!).L) : Nat) : Int) ≠ 0) := by simpa using h5
      refine wc_false rfl ?_
      refine wc_seq ?_
      refine wc_region ?_
      refine wl_val (.pointer (some ⟨g4, 1, none⟩)) rfl (fun _ => by go_simp) ?_
      simp only [Act.put, List.setIfInBounds_toArray, List.set_cons_zero, List.set_cons_succ]
      refine wl_cell 3 (.tmp 53) (.int .i64 ((getF ((U[i]!).L)).2.1)) (own_row 0 rfl) rfl rfl rfl rfl Try.isAgg3 ?_
      simp only [Act.put, List.setIfInBounds_toArray, List.set_cons_zero, List.set_cons_succ]
      refine wl_val (.int .i64 (cy % 256)) rfl (fun _ => rfl) ?_
      simp only [Act.put, List.setIfInBounds_toArray, List.set_cons_zero, List.set_cons_succ]
      refine wl_val (.bool (((getF ((U[i]!).L)).2.1) != (cy % 256))) rfl (fun w => run_cmp rfl rfl rfl Try.underlying3 rfl w) ?_
      simp only [Act.put, List.setIfInBounds_toArray, List.set_cons_zero, List.set_cons_succ]
      refine wl_val (.bool (((getF ((U[i]!).L)).2.1) != (cy % 256))) rfl (fun _ => rfl) ?_
      simp only [Act.put, List.setIfInBounds_toArray, List.set_cons_zero, List.set_cons_succ]
      refine wl_nil ?_
      refine we_then ?_
      cases h6 : (((getF ((U[i]!).L)).2.1) != (cy % 256))
      · skip
        have p6 : ¬ (((getF ((U[i]!).L)).2.1) ≠ (cy % 256)) := by simpa using h6
        refine wc_false rfl ?_
        refine wc_seq ?_
        refine wc_region ?_
        refine wl_val (.pointer (some ⟨g4, 0, none⟩)) rfl (fun _ => by go_simp) ?_
        simp only [Act.put, List.setIfInBounds_toArray, List.set_cons_zero, List.set_cons_succ]
        refine wl_cell 3 (.tmp 62) (.int .i64 ((getF ((U[i]!).L)).1)) (own_row 0 rfl) rfl rfl rfl rfl Try.isAgg3 ?_
        simp only [Act.put, List.setIfInBounds_toArray, List.set_cons_zero, List.set_cons_succ]
        refine wl_val (.pointer (some ⟨g2, 0, none⟩)) rfl (fun _ => by go_simp) ?_
        simp only [Act.put, List.setIfInBounds_toArray, List.set_cons_zero, List.set_cons_succ]
        refine wl_val (.pointer (some ⟨g2, kn ((U[i]!).L), none⟩)) rfl (fun w => er_arr (k := kn ((U[i]!).L)) (m := kn ((U[i]!).L)) 1 rfl rfl rfl (kn_cast _) (by omega) (by omega) Try.underlying25 (by kernel_rfl) w) ?_
        simp only [Act.put, List.setIfInBounds_toArray, List.set_cons_zero, List.set_cons_succ]
        refine wl_cell 4 (.tmp 65) (.bool (m.has (kn ((U[i]!).L)))) (own_row 1 rfl) rfl rfl rfl (mrow_has _ _ _ _ _ _ (kn_lt _)) Try.isAgg4 ?_
        simp only [Act.put, List.setIfInBounds_toArray, List.set_cons_zero, List.set_cons_succ]
        refine wl_val (.bool (m.has (kn ((U[i]!).L)))) rfl (fun _ => rfl) ?_
        simp only [Act.put, List.setIfInBounds_toArray, List.set_cons_zero, List.set_cons_succ]
        refine wl_nil ?_
        refine we_then ?_
        cases h7 : ((m.has (kn ((U[i]!).L))))
        · skip
          refine wc_false rfl ?_
          refine wc_draw_fin (Γ := Unit) (fun _ j => ([.pointer (some ⟨g4, 0, none⟩), .int .i64 ((getF ((U[i]!).L)).1), .pointer (some ⟨g4, 0, none⟩), .int .i64 ((getF ((U[i]!).L)).1), .pointer (some ⟨g4, 2, none⟩), .int .i64 ((getF ((U[i]!).L)).2.2), .pointer (some ⟨g2, 0, none⟩), .pointer (some ⟨g2, (kn ((U[i]!).L)), none⟩), undef, .pointer (some ⟨g2, 6, none⟩), .pointer (some ⟨g2, (6 + kn ((U[i]!).L)), none⟩), undef]).getD j undef) (fun L _ => [⟨g4, #[.int .i64 ((getF ((U[i]!).L)).1), .int .i64 ((getF ((U[i]!).L)).2.1), .int .i64 ((getF ((U[i]!).L)).2.2)], 43⟩, ⟨g2, (mrow (if L 8 = true then upd m.has (kn ((U[i]!).L)) true else m.has) (if L 11 = true then upd m.val (kn ((U[i]!).L)) ((getF ((U[i]!).L)).2.2) else m.val) m.bad m.stale m.twice (n - 32 : Nat)).toArray, 28⟩, ⟨g1, #[.bool false, .bool false, .bool false, .bool false, .bool false, .bool false, .int .i64 0, .int .i64 0, .int .i64 0, .int .i64 0, .int .i64 0, .int .i64 0, .int .i64 0, .int .i64 0, .int .i64 0, .int .i64 0], 28⟩]) (fun _ _ => True) () 73 (fun _ => ({ tmps := #[.int .i64 cy, .slice p n c, undef, undef, .pointer (some ⟨g1, 0, none⟩), .pointer (some ⟨g2, 0, none⟩), .int .i64 (cy % 256), undef, .slice ((U[i]!).p) ((U[i]!).L.length) ((U[i]!).c), .pointer (some ⟨g4, 0, none⟩), .int .i64 ((getE ((U[i]!).L) : Nat) : Int), .slice p n c, .int .i64 (n : Int), .int .i64 ((n : Int) - 32), .int .i64 ((n - 32 : Nat) : Int), .agg #[.bool false, .bool false, .bool false, .bool false, .bool false, .bool false, .int .i64 0, .int .i64 0, .int .i64 0, .int .i64 0, .int .i64 0, .int .i64 0, .int .i64 0, .int .i64 0, .int .i64 0, .int .i64 ((n - 32 : Nat) : Int)], .int .i64 cy, .int .i64 (cy % 256), .slice p n c, .slice p n c, .int .i64 (n : Int), .pointer (some ⟨g2, 15, none⟩), .int .i64 ((n - 32 : Nat) : Int), .int .i64 ((n - (n - 32) : Nat) : Int), .slice p (n - (n - 32)) c, .int .i64 ((n - (n - 32) : Nat) : Int), .int .i64 (i : Int), .bool true, eaddr p (i * 1), .slice ((U[i]!).p) ((U[i]!).L.length) ((U[i]!).c), .tuple #[.agg #[.int .i64 ((getF ((U[i]!).L)).1), .int .i64 ((getF ((U[i]!).L)).2.1), .int .i64 ((getF ((U[i]!).L)).2.2)], .int .i64 ((getE ((U[i]!).L) : Nat) : Int)], .slice ((U[i]!).p) ((U[i]!).L.length) ((U[i]!).c), .tuple #[.agg #[.int .i64 ((getF ((U[i]!).L)).1), .int .i64 ((getF ((U[i]!).L)).2.1), .int .i64 ((getF ((U[i]!).L)).2.2)], .int .i64 ((getE ((U[i]!).L) : Nat) : Int)], .agg #[.int .i64 ((getF ((U[i]!).L)).1), .int .i64 ((getF ((U[i]!).L)).2.1), .int .i64 ((getF ((U[i]!).L)).2.2)], .int .i64 ((getE ((U[i]!).L) : Nat) : Int), .pointer (some ⟨g4, 0, none⟩), .int .i64 ((getF ((U[i]!).L)).1), .pointer (some ⟨g4, 0, none⟩), .int .i64 ((getF ((U[i]!).L)).1), .pointer (some ⟨g4, 2, none⟩), .int .i64 ((getF ((U[i]!).L)).2.2), .pointer (some ⟨g2, 0, none⟩), .pointer (some ⟨g2, (kn ((U[i]!).L)), none⟩), .pointer (some ⟨g2, 6, none⟩), .pointer (some ⟨g2, (6 + kn ((U[i]!).L)), none⟩), .bool false, .int .i64 ((getE ((U[i]!).L) : Nat) : Int), .bool false, u48, u49, u50, u51, .bool false, .pointer (some ⟨g4, 1, none⟩), .int .i64 ((getF ((U[i]!).L)).2.1), .int .i64 (cy % 256), .bool false, u57, u58, u59, u60, .bool false, .pointer (some ⟨g4, 0, none⟩), .int .i64 ((getF ((U[i]!).L)).1), .pointer (some ⟨g2, 0, none⟩), .pointer (some ⟨g2, kn ((U[i]!).L), none⟩), .bool false, u67, u68, u69, u70, u71, undef], defers := [] } : Act)) (fun _ => [⟨g4, #[.int .i64 ((getF ((U[i]!).L)).1), .int .i64 ((getF ((U[i]!).L)).2.1), .int .i64 ((getF ((U[i]!).L)).2.2)], 43⟩, ⟨g2, (mcells (accept m (kn ((U[i]!).L)) ((getF ((U[i]!).L)).2.2)) (n - 32)).toArray, 28⟩, ⟨g1, #[.bool false, .bool false, .bool false, .bool false, .bool false, .bool false, .int .i64 0, .int .i64 0, .int .i64 0, .int .i64 0, .int .i64 0, .int .i64 0, .int .i64 0, .int .i64 0, .int .i64 0, .int .i64 0], 28⟩]) (by kernel_rfl) rfl (by kernel_rfl) rfl trivial (fun _ => by kernel_rfl) (fun _ => rfl) ?_ ?_
          · skip
            refine sps_cons (sp_val (.pointer (some ⟨g4, 0, none⟩)) rfl (fun _ => rfl) (fun _ _ h => h) (fun _ _ => rfl) (fun L γ a w h hE => run_fieldAddr rfl (h.out (by kernel_rfl) rfl) Try.underlying43 rfl (by rfl) (z := 0) (by kernel_rfl) w)) ?_
            refine sps_cons (sp_val (.int .i64 ((getF ((U[i]!).L)).1)) rfl (fun _ => rfl) (fun _ _ h => h) (fun _ _ => rfl) (fun L γ a w h hE => load_cell (hE.rowAt (i := 0) rfl) rfl rfl (h.tmp 0 rfl (h.dep (by kernel_rfl))) Try.isAgg3)) ?_
            refine sps_cons (sp_val (.pointer (some ⟨g4, 0, none⟩)) rfl (fun _ => rfl) (fun _ _ h => h) (fun _ _ => rfl) (fun L γ a w h hE => run_fieldAddr rfl (h.out (by kernel_rfl) rfl) Try.underlying43 rfl (by rfl) (z := 0) (by kernel_rfl) w)) ?_
            refine sps_cons (sp_val (.int .i64 ((getF ((U[i]!).L)).1)) rfl (fun _ => rfl) (fun _ _ h => h) (fun _ _ => rfl) (fun L γ a w h hE => load_cell (hE.rowAt (i := 0) rfl) rfl rfl (h.tmp 2 rfl (h.dep (by kernel_rfl))) Try.isAgg3)) ?_
            refine sps_cons (sp_val (.pointer (some ⟨g4, 2, none⟩)) rfl (fun _ => rfl) (fun _ _ h => h) (fun _ _ => rfl) (fun L γ a w h hE => run_fieldAddr rfl (h.out (by kernel_rfl) rfl) Try.underlying43 rfl (by rfl) (z := 0) (by kernel_rfl) w)) ?_
            refine sps_cons (sp_val (.int .i64 ((getF ((U[i]!).L)).2.2)) rfl (fun _ => rfl) (fun _ _ h => h) (fun _ _ => rfl) (fun L γ a w h hE => load_cell (hE.rowAt (i := 0) rfl) rfl rfl (h.tmp 4 rfl (h.dep (by kernel_rfl))) Try.isAgg2)) ?_
            refine sps_cons (sp_val (.pointer (some ⟨g2, 0, none⟩)) rfl (fun _ => rfl) (fun _ _ h => h) (fun _ _ => rfl) (fun L γ a w h hE => run_fieldAddr rfl (h.out (by kernel_rfl) rfl) Try.underlying28 rfl (by rfl) (z := 5) (by kernel_rfl) w)) ?_
            refine sps_cons (sp_val (.pointer (some ⟨g2, (kn ((U[i]!).L)), none⟩)) rfl (fun _ => rfl) (fun _ _ h => h) (fun _ _ => rfl) (fun L γ a w h hE => er_arr (k := kn ((U[i]!).L)) 1 rfl (h.tmp 6 rfl (h.dep (by kernel_rfl))) (h.tmp 1 rfl (h.dep (by kernel_rfl))) (kn_cast _) (kn_lt _) (by omega) Try.underlying25 (by kernel_rfl) w)) ?_
            refine sps_cons ⟨fun L γ a w h _ hE K hK => h.go rfl ?_⟩ ?_
            · have l8 : L 8 = false := h.off
              rw [run_store_cell (v := .bool true) (hE.rowAt (i := 1) rfl) (mrow_has _ _ _ _ _ _ (kn_lt ((U[i]!).L))) rfl (h.tmp 7 rfl (h.dep (by kernel_rfl))) rfl (by kernel_rfl) rfl, mrow_set_has _ _ _ _ _ _ (kn_lt _), l8]
              refine hK γ _ (fun _ _ => rfl) trivial ?_
              have hS := hE.setRow (i := 1) rfl ((mrow (if L 8 = true then upd m.has (kn ((U[i]!).L)) true else m.has) (if L 11 = true then upd m.val (kn ((U[i]!).L)) ((getF ((U[i]!).L)).2.2) else m.val) m.bad m.stale m.twice (n - 32 : Nat)).toArray.setIfInBounds (kn ((U[i]!).L)) (.bool true))
              rw [mrow_set_has _ _ _ _ _ _ (kn_lt _), l8] at hS
              exact hS
            refine sps_cons (sp_val (.pointer (some ⟨g2, 6, none⟩)) rfl (fun _ => rfl) (fun _ _ h => h) (fun _ _ => rfl) (fun L γ a w h hE => run_fieldAddr rfl (h.out (by kernel_rfl) rfl) Try.underlying28 rfl (by rfl) (z := 5) (by kernel_rfl) w)) ?_
            refine sps_cons (sp_val (.pointer (some ⟨g2, (6 + kn ((U[i]!).L)), none⟩)) rfl (fun _ => rfl) (fun _ _ h => h) (fun _ _ => rfl) (fun L γ a w h hE => er_arr (k := kn ((U[i]!).L)) 1 rfl (h.tmp 9 rfl (h.dep (by kernel_rfl))) (h.tmp 3 rfl (h.dep (by kernel_rfl))) (kn_cast _) (kn_lt _) (by omega) Try.underlying26 (by kernel_rfl) w)) ?_
            refine sps_cons ⟨fun L γ a w h _ hE K hK => h.go rfl ?_⟩ ?_
            · have l8 : L 11 = false := h.off
              rw [run_store_cell (v := .int .i64 ((getF ((U[i]!).L)).2.2)) (hE.rowAt (i := 1) rfl) (mrow_val _ _ _ _ _ _ (kn_lt ((U[i]!).L))) rfl (h.tmp 10 rfl (h.dep (by kernel_rfl))) (h.tmp 5 rfl (h.dep (by kernel_rfl))) (by kernel_rfl) rfl, mrow_set_val _ _ _ _ _ _ (kn_lt _), l8]
              refine hK γ _ (fun _ _ => rfl) trivial ?_
              have hS := hE.setRow (i := 1) rfl ((mrow (if L 8 = true then upd m.has (kn ((U[i]!).L)) true else m.has) (if L 11 = true then upd m.val (kn ((U[i]!).L)) ((getF ((U[i]!).L)).2.2) else m.val) m.bad m.stale m.twice (n - 32 : Nat)).toArray.setIfInBounds (6 + kn ((U[i]!).L)) (.int .i64 ((getF ((U[i]!).L)).2.2)))
              rw [mrow_set_val _ _ _ _ _ _ (kn_lt _), l8] at hS
              exact hS
            exact sps_nil
          rintro ⟨⟩ -
          refine we_in ?_
          refine we_in ?_
          refine we_then ?_
          refine wc_region ?_
          refine wl_val (.int .i64 ((i + 1 : Nat) : Int)) rfl (fun w => run_nat (X := i) (Y := 1) (Z := i + 1) rfl rfl rfl rfl (by omega) w) ?_
          simp only [Act.put, List.setIfInBounds_toArray, List.set_cons_zero, List.set_cons_succ]
          refine wl_val (.int .i64 ((i + 1 : Nat) : Int)) rfl (fun _ => rfl) ?_
          simp only [Act.put, List.setIfInBounds_toArray, List.set_cons_zero, List.set_cons_succ]
          refine wl_nil ?_
          exact we_meet ⟨(i + 1), (accept m (kn ((U[i]!).L)) ((getF ((U[i]!).L)).2.2)), _, _, _, _, _, _, _, _, _, _, _, _, _, _, _, _, _, _, _, _, _, _, _, _, _, _, _, _, _, _, _, _, _, _, _, _, _, _, _, _, _, _, _, _, _, _, _, _⟩ ⟨⟨by (try dsimp only); omega, run_snoc _ U i q0 b2 (step_take (by omega) (by omega) h7), (show m.bad ≤ i + 1 by omega), (show m.stale ≤ i + 1 by omega), (show m.twice ≤ i + 1 by omega)⟩, by (try dsimp only); omega⟩ rfl (List.Sublist.cons _ (List.Sublist.cons_cons _ (List.Sublist.cons_cons _ List.Sublist.slnil)))
        · skip
          refine wc_true rfl ?_
          refine wc_region ?_
          refine wl_val (.pointer (some ⟨g2, 14, none⟩)) rfl (fun _ => by go_simp) ?_
          simp only [Act.put, List.setIfInBounds_toArray, List.set_cons_zero, List.set_cons_succ]
          refine wl_cell 3 (.tmp 67) (.int .i64 (m.twice : Int)) (own_row 1 rfl) rfl rfl rfl rfl Try.isAgg3 ?_
          simp only [Act.put, List.setIfInBounds_toArray, List.set_cons_zero, List.set_cons_succ]
          refine wl_val (.int .i64 ((m.twice + 1 : Nat) : Int)) rfl (fun w => run_nat (X := m.twice) (Y := 1) (Z := m.twice + 1) rfl rfl rfl rfl (by omega) w) ?_
          simp only [Act.put, List.setIfInBounds_toArray, List.set_cons_zero, List.set_cons_succ]
          refine wl_val (.pointer (some ⟨g2, 14, none⟩)) rfl (fun _ => by go_simp) ?_
          simp only [Act.put, List.setIfInBounds_toArray, List.set_cons_zero, List.set_cons_succ]
          refine wl_store_cell 1 3 (.tmp 70) (.tmp 69) (.int .i64 (m.twice : Int)) (.int .i64 ((m.twice + 1 : Nat) : Int)) rfl rfl rfl rfl rfl rfl (by kernel_rfl) rfl ?_
          simp only [Act.put, List.set_cons_zero, List.set_cons_succ]
          refine wl_nil ?_
          refine we_in ?_
          refine we_in ?_
          refine we_then ?_
          refine wc_region ?_
          refine wl_val (.int .i64 ((i + 1 : Nat) : Int)) rfl (fun w => run_nat (X := i) (Y := 1) (Z := i + 1) rfl rfl rfl rfl (by omega) w) ?_
          simp only [Act.put, List.setIfInBounds_toArray, List.set_cons_zero, List.set_cons_succ]
          refine wl_val (.int .i64 ((i + 1 : Nat) : Int)) rfl (fun _ => rfl) ?_
          simp only [Act.put, List.setIfInBounds_toArray, List.set_cons_zero, List.set_cons_succ]
          refine wl_nil ?_
          exact we_meet ⟨(i + 1), (addTwice m), _, _, _, _, _, _, _, _, _, _, _, _, _, _, _, _, _, _, _, _, _, _, _, _, _, _, _, _, _, _, _, _, _, _, _, _, _, _, _, _, _, _, _, _, _, _, _, _⟩ ⟨⟨by (try dsimp only); omega, run_snoc _ U i q0 b2 (step_twice (by omega) (by omega) h7), (show m.bad ≤ i + 1 by omega), (show m.stale ≤ i + 1 by omega), (show m.twice + 1 ≤ i + 1 by omega)⟩, by (try dsimp only); omega⟩ rfl (List.Sublist.cons _ (List.Sublist.cons_cons _ (List.Sublist.cons_cons _ List.Sublist.slnil)))
      · skip
        have p6 : ((getF ((U[i]!).L)).2.1) ≠ (cy % 256) := by simpa using h6
        refine wc_true rfl ?_
        refine wc_region ?_
        refine wl_val (.pointer (some ⟨g2, 13, none⟩)) rfl (fun _ => by go_simp) ?_
        simp only [Act.put, List.setIfInBounds_toArray, List.set_cons_zero, List.set_cons_succ]
        refine wl_cell 3 (.tmp 57) (.int .i64 (m.stale : Int)) (own_row 1 rfl) rfl rfl rfl rfl Try.isAgg3 ?_
        simp only [Act.put, List.setIfInBounds_toArray, List.set_cons_zero, List.set_cons_succ]
        refine wl_val (.int .i64 ((m.stale + 1 : Nat) : Int)) rfl (fun w => run_nat (X := m.stale) (Y := 1) (Z := m.stale + 1) rfl rfl rfl rfl (by omega) w) ?_
        simp only [Act.put, List.setIfInBounds_toArray, List.set_cons_zero, List.set_cons_succ]
        refine wl_val (.pointer (some ⟨g2, 13, none⟩)) rfl (fun _ => by go_simp) ?_
        simp only [Act.put, List.setIfInBounds_toArray, List.set_cons_zero, List.set_cons_succ]
        refine wl_store_cell 1 3 (.tmp 60) (.tmp 59) (.int .i64 (m.stale : Int)) (.int .i64 ((m.stale + 1 : Nat) : Int)) rfl rfl rfl rfl rfl rfl (by kernel_rfl) rfl ?_
        simp only [Act.put, List.set_cons_zero, List.set_cons_succ]
        refine wl_nil ?_
        refine we_in ?_
        refine we_in ?_
        refine we_then ?_
        refine wc_region ?_
        refine wl_val (.int .i64 ((i + 1 : Nat) : Int)) rfl (fun w => run_nat (X := i) (Y := 1) (Z := i + 1) rfl rfl rfl rfl (by omega) w) ?_
        simp only [Act.put, List.setIfInBounds_toArray, List.set_cons_zero, List.set_cons_succ]
        refine wl_val (.int .i64 ((i + 1 : Nat) : Int)) rfl (fun _ => rfl) ?_
        simp only [Act.put, List.setIfInBounds_toArray, List.set_cons_zero, List.set_cons_succ]
        refine wl_nil ?_
        exact we_meet ⟨(i + 1), (addStale m), _, _, _, _, _, _, _, _, _, _, _, _, _, _, _, _, _, _, _, _, _, _, _, _, _, _, _, _, _, _, _, _, _, _, _, _, _, _, _, _, _, _, _, _, _, _, _, _⟩ ⟨⟨by (try dsimp only); omega, run_snoc _ U i q0 b2 (step_stale (by omega) (by omega)), (show m.bad ≤ i + 1 by omega), (show m.stale + 1 ≤ i + 1 by omega), (show m.twice ≤ i + 1 by omega)⟩, by (try dsimp only); omega⟩ rfl (List.Sublist.cons _ (List.Sublist.cons_cons _ (List.Sublist.cons_cons _ List.Sublist.slnil)))
    · skip
      have p5 : ((getE ((U[i]!).L) : Nat) : Int) ≠ 0 := by simpa using h5
      refine wc_true rfl ?_
      refine wc_region ?_
      refine wl_val (.pointer (some ⟨g2, 12, none⟩)) rfl (fun _ => by go_simp) ?_
      simp only [Act.put, List.setIfInBounds_toArray, List.set_cons_zero, List.set_cons_succ]
      refine wl_cell 3 (.tmp 48) (.int .i64 (m.bad : Int)) (own_row 1 rfl) rfl rfl rfl rfl Try.isAgg3 ?_
      simp only [Act.put, List.setIfInBounds_toArray, List.set_cons_zero, List.set_cons_succ]
      refine wl_val (.int .i64 ((m.bad + 1 : Nat) : Int)) rfl (fun w => run_nat (X := m.bad) (Y := 1) (Z := m.bad + 1) rfl rfl rfl rfl (by omega) w) ?_
      simp only [Act.put, List.setIfInBounds_toArray, List.set_cons_zero, List.set_cons_succ]
      refine wl_val (.pointer (some ⟨g2, 12, none⟩)) rfl (fun _ => by go_simp) ?_
      simp only [Act.put, List.setIfInBounds_toArray, List.set_cons_zero, List.set_cons_succ]
      refine wl_store_cell 1 3 (.tmp 51) (.tmp 50) (.int .i64 (m.bad : Int)) (.int .i64 ((m.bad + 1 : Nat) : Int)) rfl rfl rfl rfl rfl rfl (by kernel_rfl) rfl ?_
      simp only [Act.put, List.set_cons_zero, List.set_cons_succ]
      refine wl_nil ?_
      refine we_in ?_
      refine we_in ?_
      refine we_then ?_
      refine wc_region ?_
      refine wl_val (.int .i64 ((i + 1 : Nat) : Int)) rfl (fun w => run_nat (X := i) (Y := 1) (Z := i + 1) rfl rfl rfl rfl (by omega) w) ?_
      simp only [Act.put, List.setIfInBounds_toArray, List.set_cons_zero, List.set_cons_succ]
      refine wl_val (.int .i64 ((i + 1 : Nat) : Int)) rfl (fun _ => rfl) ?_
      simp only [Act.put, List.setIfInBounds_toArray, List.set_cons_zero, List.set_cons_succ]
      refine wl_nil ?_
      exact we_meet ⟨(i + 1), (addBad m), _, _, _, _, _, _, _, _, _, _, _, _, _, _, _, _, _, _, _, _, _, _, _, _, _, _, _, _, _, _, _, _, _, _, _, _, _, _, _, _, _, _, _, _, _, _, _, _⟩ ⟨⟨by (try dsimp only); omega, run_snoc _ U i q0 b2 (step_bad (by omega)), (show m.bad + 1 ≤ i + 1 by omega), (show m.stale ≤ i + 1 by omega), (show m.twice ≤ i + 1 by omega)⟩, by (try dsimp only); omega⟩ rfl (List.Sublist.cons _ (List.Sublist.cons_cons _ (List.Sublist.cons_cons _ List.Sublist.slnil)))
set_option maxHeartbeats 2000000 in
theorem seq_any (cy : Int) (w : World) :
    Calls Try.prog 14 #[.int .i64 cy] w fun e w' => e = .returned (.int .i64 (cy % 256)) ∧ Below w.heap.size w w' := by
  have f1 := tmod_256 cy
  refine calls_sx Try.func14 rfl ?_
  simp only [Try.ntmps14, List.size_toArray, List.length_cons, List.length_nil, Nat.reduceAdd, Nat.reduceSub, Array.replicate_succ, Array.replicate_zero, List.push_toArray, List.append_toArray, List.nil_append, List.cons_append]
  refine wc_seq ?_
  refine wc_region ?_
  refine wl_val (.int .i64 0) rfl (fun _ => rfl) ?_
  simp only [Act.put, List.setIfInBounds_toArray, List.set_cons_zero, List.set_cons_succ]
  refine wl_nil ?_
  refine we_then ?_
  refine wc_seq ?_
  refine wc_region ?_
  refine wl_val (.int .i64 cy) rfl (fun _ => rfl) ?_
  simp only [Act.put, List.setIfInBounds_toArray, List.set_cons_zero, List.set_cons_succ]
  refine wl_val (.int .i64 (cy.tmod 256)) rfl (fun w => run_tmod (by decide) rfl rfl rfl w) ?_
  simp only [Act.put, List.setIfInBounds_toArray, List.set_cons_zero, List.set_cons_succ]
  refine wl_val (.int .i64 ((cy.tmod 256) + 256)) rfl (fun w => run_arith (op := .add) rfl rfl rfl Try.underlying3 (congrArg some (i64_in (by omega) (by omega))) w) ?_
  simp only [Act.put, List.setIfInBounds_toArray, List.set_cons_zero, List.set_cons_succ]
  refine wl_val (.int .i64 ((cy.tmod 256 + 256) % 256)) rfl (fun w => run_rem rfl rfl rfl Try.underlying3 (by omega) (by omega) w) ?_
  simp only [Act.put, List.setIfInBounds_toArray, List.set_cons_zero, List.set_cons_succ]
  refine wl_val (.int .i64 ((cy.tmod 256 + 256) % 256)) rfl (fun _ => rfl) ?_
  simp only [Act.put, List.setIfInBounds_toArray, List.set_cons_zero, List.set_cons_succ]
  refine wl_nil ?_
  refine we_then ?_
  refine wc_ret ?_
  refine we_ret1 (.int .i64 ((cy.tmod 256 + 256) % 256)) rfl rfl rfl (fun w1 hE => ?_)
  exact ⟨by rw [show (cy.tmod 256 + 256) % 256 = cy % 256 from f1.2.2], hE.below⟩
set_option maxHeartbeats 2000000 in
theorem sort_ref (cy : Int) (T : List Tx) (p : Option Addr) (n c : Nat) (M : Ml) (w : World) (hl : T.length = n) (hS : Reads w p (flat tx T)) (hT : OkT w T) (hs3 : Short T) (hn : n ≤ 1000) (hc : n ≤ c) (hM : sort (cy % 256) (ls T) = M) :
    Calls Try.prog 11 #[.int .i64 cy, .slice p n c] w fun e w' => e = .returned (.agg (rcells M (n - 32)).toArray) ∧ Below w.heap.size w w' := by
  refine calls_sx Try.func11 rfl ?_
  simp only [Try.ntmps11, List.size_toArray, List.length_cons, List.length_nil, Nat.reduceAdd, Nat.reduceSub, Array.replicate_succ, Array.replicate_zero, List.push_toArray, List.append_toArray, List.nil_append, List.cons_append]
  refine wc_seq ?_
  refine wc_region ?_
  refine wl_new 33 (#[.int .i64 0, .int .i64 0, .int .i64 0, .int .i64 0, .int .i64 0, .int .i64 0, .int .i64 0, .int .i64 0, .int .i64 0, .int .i64 0, .int .i64 0, .int .i64 0, .int .i64 0, .int .i64 0, .int .i64 0, .int .i64 0]) rfl (fun _ => by go_simp) ?_
  intro g1
  simp only [Act.put, List.setIfInBounds_toArray, List.set_cons_zero, List.set_cons_succ]
  refine wl_nil ?_
  refine we_then ?_
  refine wc_seq ?_
  refine wc_region ?_
  refine wl_new 33 (#[.int .i64 0, .int .i64 0, .int .i64 0, .int .i64 0, .int .i64 0, .int .i64 0, .int .i64 0, .int .i64 0, .int .i64 0, .int .i64 0, .int .i64 0, .int .i64 0, .int .i64 0, .int .i64 0, .int .i64 0, .int .i64 0]) rfl (fun _ => by go_simp) ?_
  intro g2
  simp only [Act.put, List.setIfInBounds_toArray, List.set_cons_zero, List.set_cons_succ]
  refine wl_nil ?_
  refine we_then ?_
  refine wc_seq ?_
  refine wc_seq ?_
  refine wc_region ?_
  refine wl_val (.int .i64 0) rfl (fun _ => rfl) ?_
  simp only [Act.put, List.setIfInBounds_toArray, List.set_cons_zero, List.set_cons_succ]
  refine wl_nil ?_
  refine we_then ?_
  refine wc_block ?_
  refine wc_loop (fun (zz : Nat × Ml × Nat × Value × Value × Value × Value × Value × Value × Value × Value × Value × Value × Value × Value × Value × Value × Value × Value × Value × Value × Value × Value × Value × Value × Value × Value × Value × Value × Value × Value × Value × Value × Value × Value × Value × Value × Value × Value × Value × Value × Value × Value × Value × Value × Value × Value × Value × Value × Value × Value × Value × Value × Value × Value × Value × Value × Value × Value × Value × Value × Value × Value × Value × Value × Value × Value × Value) => match zz with | ⟨i, m, y, u7, u8, u9, u10, u11, u12, u13, u14, u15, u16, u17, u18, u19, u20, u21, u22, u23, u24, u25, u26, u27, u28, u29, u30, u31, u32, u33, u34, u35, u36, u37, u38, u39, u40, u41, u42, u43, u44, u45, u46, u47, u48, u49, u50, u51, u52, u53, u54, u55, u56, u57, u58, u59, u60, u61, u62, u63, u64, u65, u66, u67, u68, u69, u70, u71⟩ => ({ tmps := #[.int .i64 cy, .slice p n c, undef, undef, .pointer (some ⟨g1, 0, none⟩), .pointer (some ⟨g2, 0, none⟩), .int .i64 (i : Int), u7, u8, u9, u10, u11, u12, u13, u14, u15, u16, u17, u18, u19, u20, u21, u22, u23, u24, u25, u26, u27, u28, u29, u30, u31, u32, u33, u34, u35, u36, u37, u38, u39, u40, u41, u42, u43, u44, u45, u46, u47, u48, u49, u50, u51, u52, u53, u54, u55, u56, u57, u58, u59, u60, u61, u62, u63, u64, u65, u66, u67, u68, u69, u70, u71, undef], defers := [] } : Act)) (fun (zz : Nat × Ml × Nat × Value × Value × Value × Value × Value × Value × Value × Value × Value × Value × Value × Value × Value × Value × Value × Value × Value × Value × Value × Value × Value × Value × Value × Value × Value × Value × Value × Value × Value × Value × Value × Value × Value × Value × Value × Value × Value × Value × Value × Value × Value × Value × Value × Value × Value × Value × Value × Value × Value × Value × Value × Value × Value × Value × Value × Value × Value × Value × Value × Value × Value × Value × Value × Value × Value) => match zz with | ⟨i, m, y, u7, u8, u9, u10, u11, u12, u13, u14, u15, u16, u17, u18, u19, u20, u21, u22, u23, u24, u25, u26, u27, u28, u29, u30, u31, u32, u33, u34, u35, u36, u37, u38, u39, u40, u41, u42, u43, u44, u45, u46, u47, u48, u49, u50, u51, u52, u53, u54, u55, u56, u57, u58, u59, u60, u61, u62, u63, u64, u65, u66, u67, u68, u69, u70, u71⟩ => [⟨g2, (rcells m y).toArray, 33⟩, ⟨g1, #[.int .i64 0, .int .i64 0, .int .i64 0, .int .i64 0, .int .i64 0, .int .i64 0, .int .i64 0, .int .i64 0, .int .i64 0, .int .i64 0, .int .i64 0, .int .i64 0, .int .i64 0, .int .i64 0, .int .i64 0, .int .i64 0], 33⟩]) (fun (zz : Nat × Ml × Nat × Value × Value × Value × Value × Value × Value × Value × Value × Value × Value × Value × Value × Value × Value × Value × Value × Value × Value × Value × Value × Value × Value × Value × Value × Value × Value × Value × Value × Value × Value × Value × Value × Value × Value × Value × Value × Value × Value × Value × Value × Value × Value × Value × Value × Value × Value × Value × Value × Value × Value × Value × Value × Value × Value × Value × Value × Value × Value × Value × Value × Value × Value × Value × Value × Value) => match zz with | ⟨i, m, y, u7, u8, u9, u10, u11, u12, u13, u14, u15, u16, u17, u18, u19, u20, u21, u22, u23, u24, u25, u26, u27, u28, u29, u30, u31, u32, u33, u34, u35, u36, u37, u38, u39, u40, u41, u42, u43, u44, u45, u46, u47, u48, u49, u50, u51, u52, u53, u54, u55, u56, u57, u58, u59, u60, u61, u62, u63, u64, u65, u66, u67, u68, u69, u70, u71⟩ => i ≤ n ∧ m = run (cy % 256) m0 (ls ((T.take 32).take i)) ∧ y = i - 32 ∧ m.bad ≤ i ∧ m.stale ≤ i ∧ m.twice ≤ i) (fun (zz : Nat × Ml × Nat × Value × Value × Value × Value × Value × Value × Value × Value × Value × Value × Value × Value × Value × Value × Value × Value × Value × Value × Value × Value × Value × Value × Value × Value × Value × Value × Value × Value × Value × Value × Value × Value × Value × Value × Value × Value × Value × Value × Value × Value × Value × Value × Value × Value × Value × Value × Value × Value × Value × Value × Value × Value × Value × Value × Value × Value × Value × Value × Value × Value × Value × Value × Value × Value × Value) => match zz with | ⟨i, m, y, u7, u8, u9, u10, u11, u12, u13, u14, u15, u16, u17, u18, u19, u20, u21, u22, u23, u24, u25, u26, u27, u28, u29, u30, u31, u32, u33, u34, u35, u36, u37, u38, u39, u40, u41, u42, u43, u44, u45, u46, u47, u48, u49, u50, u51, u52, u53, u54, u55, u56, u57, u58, u59, u60, u61, u62, u63, u64, u65, u66, u67, u68, u69, u70, u71⟩ => n - i) ⟨0, m0, 0, _, _, _, _, _, _, _, _, _, _, _, _, _, _, _, _, _, _, _, _, _, _, _, _, _, _, _, _, _, _, _, _, _, _, _, _, _, _, _, _, _, _, _, _, _, _, _, _, _, _, _, _, _, _, _, _, _, _, _, _, _, _, _, _, _⟩ ⟨Nat.zero_le _, (by simp [run, ls]), rfl, Nat.le_refl _, Nat.le_refl _, Nat.le_refl _⟩ rfl (List.Sublist.cons_cons _ (List.Sublist.cons_cons _ List.Sublist.slnil)) ?_
  rintro ⟨i, m, y, u7, u8, u9, u10, u11, u12, u13, u14, u15, u16, u17, u18, u19, u20, u21, u22, u23, u24, u25, u26, u27, u28, u29, u30, u31, u32, u33, u34, u35, u36, u37, u38, u39, u40, u41, u42, u43, u44, u45, u46, u47, u48, u49, u50, u51, u52, u53, u54, u55, u56, u57, u58, u59, u60, u61, u62, u63, u64, u65, u66, u67, u68, u69, u70, u71⟩ hφ
  (try dsimp only at hφ ⊢)
  obtain ⟨b1, b2, b6, b3, b4, b5⟩ := hφ
  refine wc_seq ?_
  refine wc_seq ?_
  refine wc_region ?_
  refine wl_val (.int .i64 (i : Int)) rfl (fun _ => rfl) ?_
  simp only [Act.put, List.setIfInBounds_toArray, List.set_cons_zero, List.set_cons_succ]
  refine wl_val (.slice p n c) rfl (fun _ => rfl) ?_
  simp only [Act.put, List.setIfInBounds_toArray, List.set_cons_zero, List.set_cons_succ]
  refine wl_val (.int .i64 (n : Int)) rfl (fun w => er_len rfl rfl Try.underlying22 w) ?_
  simp only [Act.put, List.setIfInBounds_toArray, List.set_cons_zero, List.set_cons_succ]
  refine wl_val (.bool (decide ((i : Int) < (n : Int)))) rfl (fun w => run_cmp rfl rfl rfl Try.underlying3 rfl w) ?_
  simp only [Act.put, List.setIfInBounds_toArray, List.set_cons_zero, List.set_cons_succ]
  refine wl_nil ?_
  refine we_then ?_
  cases h3 : (decide ((i : Int) < (n : Int)))
  · skip
    have p3 : ¬ ((i : Int) < (n : Int)) := of_decide_eq_false h3
    refine wc_false rfl ?_
    refine wc_exit ?_
    refine we_then_exit ?_
    refine we_then_exit ?_
    refine we_in_here ?_
    refine we_then ?_
    refine wc_seq ?_
    refine wc_region ?_
    refine wl_load 33 (.tmp 5) (own_row 0 rfl) rfl rfl rfl Try.underlying33 rfl (by kernel_rfl) ?_
    simp only [Act.put, List.setIfInBounds_toArray, List.set_cons_zero, List.set_cons_succ]
    refine wl_store 1 33 (.tmp 4) (.tmp 72) ((rcells m y).toArray) rfl rfl rfl rfl rfl (by kernel_rfl) rfl (rcells_one _ _) ?_
    simp only [Act.put, List.set_cons_zero, List.set_cons_succ]
    refine wl_nil ?_
    refine we_then ?_
    refine wc_ret ?_
    refine we_ret_cell (own_row 1 rfl) rfl rfl rfl Try.underlying33 rfl (by kernel_rfl) (fun w1 hE => ?_)
    obtain rfl : m = M := (run_end _ T i (by omega) b2).trans hM
    obtain rfl : y = n - 32 := by omega
    exact ⟨rfl, hE.below⟩
  · skip
    have p3 : (i : Int) < (n : Int) := of_decide_eq_true h3
    have q0 : i < T.length := by omega
    have q1 := ok_cap hT q0
    have q2 := short_at hs3 q0
    have q3 := kn_lt (T[i]!).L
    refine wc_true rfl ?_
    refine wc_skip ?_
    refine we_then ?_
    refine wc_seq ?_
    refine wc_block ?_
    refine wc_seq ?_
    refine wc_seq ?_
    refine wc_region ?_
    refine wl_val (.int .i64 (i : Int)) rfl (fun _ => rfl) ?_
    simp only [Act.put, List.setIfInBounds_toArray, List.set_cons_zero, List.set_cons_succ]
    refine wl_val (.bool (decide (32 ≤ (i : Int)))) rfl (fun w => run_cmp rfl rfl rfl Try.underlying3 rfl w) ?_
    simp only [Act.put, List.setIfInBounds_toArray, List.set_cons_zero, List.set_cons_succ]
    refine wl_nil ?_
    refine we_then ?_
    cases h4 : (decide (32 ≤ (i : Int)))
    · skip
      have p4 : ¬ (32 ≤ (i : Int)) := of_decide_eq_false h4
      refine wc_false rfl ?_
      refine wc_skip ?_
      refine we_then ?_
      refine wc_seq ?_
      refine wc_region ?_
      refine wl_val (.slice p n c) rfl (fun _ => rfl) ?_
      simp only [Act.put, List.setIfInBounds_toArray, List.set_cons_zero, List.set_cons_succ]
      refine wl_val (.int .i64 (i : Int)) rfl (fun _ => rfl) ?_
      simp only [Act.put, List.setIfInBounds_toArray, List.set_cons_zero, List.set_cons_succ]
      refine wl_read (eaddr p (i * 1)) rfl (er_index i 1 (sl_old hS) rfl rfl rfl rfl (by omega) (tx_len1 hl) (by decide) Try.underlying22 (by kernel_rfl)) ?_
      simp only [Act.put, List.setIfInBounds_toArray, List.set_cons_zero, List.set_cons_succ]
      refine wl_read (.slice ((T[i]!).p) ((T[i]!).L.length) ((T[i]!).c)) rfl (er_cell (i * 1) (.slice ((T[i]!).p) ((T[i]!).L.length) ((T[i]!).c)) (sl_old hS) rfl rfl (flat_cell (enc := tx) (fun _ => rfl) T i 0 (by omega) (by decide)) Try.isAgg45) ?_
      simp only [Act.put, List.setIfInBounds_toArray, List.set_cons_zero, List.set_cons_succ]
      refine wl_call_at 17 #[.slice ((T[i]!).p) ((T[i]!).L.length) ((T[i]!).c)] (.tuple #[.agg #[.int .i64 ((getF ((T[i]!).L)).1), .int .i64 ((getF ((T[i]!).L)).2.1), .int .i64 ((getF ((T[i]!).L)).2.2)], .int .i64 ((getE ((T[i]!).L) : Nat) : Int)]) rfl (fun _ => by go_simp) (fun W hE => Fref.get_ref ((T[i]!).L) _ _ W ((sl_old (ok_reads hT q0)) W hE) (by omega) (by omega)) ?_
      simp only [Act.put, List.setIfInBounds_toArray, List.set_cons_zero, List.set_cons_succ]
      refine wl_val (.tuple #[.agg #[.int .i64 ((getF ((T[i]!).L)).1), .int .i64 ((getF ((T[i]!).L)).2.1), .int .i64 ((getF ((T[i]!).L)).2.2)], .int .i64 ((getE ((T[i]!).L) : Nat) : Int)]) rfl (fun _ => rfl) ?_
      simp only [Act.put, List.setIfInBounds_toArray, List.set_cons_zero, List.set_cons_succ]
      refine wl_val (.agg #[.int .i64 ((getF ((T[i]!).L)).1), .int .i64 ((getF ((T[i]!).L)).2.1), .int .i64 ((getF ((T[i]!).L)).2.2)]) rfl (fun _ => by go_simp) ?_
      simp only [Act.put, List.setIfInBounds_toArray, List.set_cons_zero, List.set_cons_succ]
      refine wl_val (.int .i64 ((getE ((T[i]!).L) : Nat) : Int)) rfl (fun _ => by go_simp) ?_
      simp only [Act.put, List.setIfInBounds_toArray, List.set_cons_zero, List.set_cons_succ]
      refine wl_new 53 (#[.int .i64 0, .int .i64 0, .int .i64 0]) rfl (fun _ => by go_simp) ?_
      intro g5
      simp only [Act.put, List.setIfInBounds_toArray, List.set_cons_zero, List.set_cons_succ]
      refine wl_store 0 53 (.tmp 7) (.tmp 29) (#[.int .i64 ((getF ((T[i]!).L)).1), .int .i64 ((getF ((T[i]!).L)).2.1), .int .i64 ((getF ((T[i]!).L)).2.2)]) rfl rfl rfl rfl rfl (by kernel_rfl) rfl (by simp [Value.oneCell']) ?_
      simp only [Act.put, List.set_cons_zero]
      refine wl_val (.int .i64 ((getE ((T[i]!).L) : Nat) : Int)) rfl (fun _ => rfl) ?_
      simp only [Act.put, List.setIfInBounds_toArray, List.set_cons_zero, List.set_cons_succ]
      refine wl_nil ?_
      refine we_then ?_
      refine wc_seq ?_
      refine wc_region ?_
      refine wl_val (.int .i64 ((getE ((T[i]!).L) : Nat) : Int)) rfl (fun _ => rfl) ?_
      simp only [Act.put, List.setIfInBounds_toArray, List.set_cons_zero, List.set_cons_succ]
      refine wl_val (.bool (((getE ((T[i]!).L) : Nat) : Int) != 0)) rfl (fun w => run_cmp rfl rfl rfl Try.underlying3 rfl w) ?_
      simp only [Act.put, List.setIfInBounds_toArray, List.set_cons_zero, List.set_cons_succ]
      refine wl_nil ?_
      refine we_then ?_
      cases h6 : (((getE ((T[i]!).L) : Nat) : Int) != 0)
      · skip
        have p6 : ¬ (((getE ((T[i]!).L) : Nat) : Int) ≠ 0) := by simpa using h6
        refine wc_false rfl ?_
        refine wc_seq ?_
        refine wc_draw [.late, .plain, .late, .plain, .late] none [] 73 (by kernel_rfl) rfl (by kernel_rfl) (by kernel_rfl) ?_
        refine ws_late (.pointer (some ⟨g5, 1, none⟩)) rfl rfl (fun _ => by go_simp) ?_
        simp only [Nat.reduceAdd, Act.put, List.setIfInBounds_toArray, List.set_cons_zero, List.set_cons_succ]
        refine ws_cell 3 (.tmp 39) (.int .i64 ((getF ((T[i]!).L)).2.1)) (own_row 0 rfl) rfl rfl rfl rfl rfl Try.isAgg3 ?_
        simp only [Nat.reduceAdd, Act.put, List.setIfInBounds_toArray, List.set_cons_zero, List.set_cons_succ]
        refine ws_late (.int .i64 cy) rfl rfl (fun _ => rfl) ?_
        simp only [Nat.reduceAdd, Act.put, List.setIfInBounds_toArray, List.set_cons_zero, List.set_cons_succ]
        refine ws_call 14 #[.int .i64 cy] (.int .i64 (cy % 256)) rfl rfl (fun _ => by go_simp) (fun W => seq_any cy W) ?_
        simp only [Nat.reduceAdd, Act.put, List.setIfInBounds_toArray, List.set_cons_zero, List.set_cons_succ]
        refine ws_late (.bool (((getF ((T[i]!).L)).2.1) != (cy % 256))) rfl rfl (fun w => run_cmp rfl rfl rfl Try.underlying3 rfl w) ?_
        simp only [Nat.reduceAdd, Act.put, List.setIfInBounds_toArray, List.set_cons_zero, List.set_cons_succ]
        refine ws_nil [] trivial (by simp) ?_
        intro ps7
        simp only [fin, List.foldl_nil, List.map, List.nil_append]
        refine we_then ?_
        cases h8 : (((getF ((T[i]!).L)).2.1) != (cy % 256))
        · skip
          have p8 : ¬ (((getF ((T[i]!).L)).2.1) ≠ (cy % 256)) := by simpa using h8
          refine wc_false rfl ?_
          refine wc_seq ?_
          refine wc_region ?_
          refine wl_val (.pointer (some ⟨g5, 0, none⟩)) rfl (fun _ => by go_simp) ?_
          simp only [Act.put, List.setIfInBounds_toArray, List.set_cons_zero, List.set_cons_succ]
          refine wl_cell 3 (.tmp 50) (.int .i64 ((getF ((T[i]!).L)).1)) (own_row 0 rfl) rfl rfl rfl rfl Try.isAgg3 ?_
          simp only [Act.put, List.setIfInBounds_toArray, List.set_cons_zero, List.set_cons_succ]
          refine wl_val (.pointer (some ⟨g2, 0, none⟩)) rfl (fun _ => by go_simp) ?_
          simp only [Act.put, List.setIfInBounds_toArray, List.set_cons_zero, List.set_cons_succ]
          refine wl_val (.pointer (some ⟨g2, kn ((T[i]!).L), none⟩)) rfl (fun w => er_arr (k := kn ((T[i]!).L)) (m := kn ((T[i]!).L)) 1 rfl rfl rfl (kn_cast _) (by omega) (by omega) Try.underlying30 (by kernel_rfl) w) ?_
          simp only [Act.put, List.setIfInBounds_toArray, List.set_cons_zero, List.set_cons_succ]
          refine wl_cell 3 (.tmp 53) (.int .i64 (b2i (m.has (kn ((T[i]!).L))))) (own_row 1 rfl) rfl rfl rfl (rcells_has _ _ (kn_lt _)) Try.isAgg3 ?_
          simp only [Act.put, List.setIfInBounds_toArray, List.set_cons_zero, List.set_cons_succ]
          refine wl_val (.bool ((b2i (m.has (kn ((T[i]!).L)))) == 1)) rfl (fun w => run_cmp rfl rfl rfl Try.underlying3 rfl w) ?_
          simp only [Act.put, List.setIfInBounds_toArray, List.set_cons_zero, List.set_cons_succ]
          refine wl_nil ?_
          refine we_then ?_
          cases h9 : ((b2i (m.has (kn ((T[i]!).L)))) == 1)
          · skip
            have p9 : ¬ ((b2i (m.has (kn ((T[i]!).L)))) = 1) := by simpa using h9
            refine wc_false rfl ?_
            refine wc_seq ?_
            refine wc_region ?_
            refine wl_val (.pointer (some ⟨g5, 0, none⟩)) rfl (fun _ => by go_simp) ?_
            simp only [Act.put, List.setIfInBounds_toArray, List.set_cons_zero, List.set_cons_succ]
            refine wl_cell 3 (.tmp 62) (.int .i64 ((getF ((T[i]!).L)).1)) (own_row 0 rfl) rfl rfl rfl rfl Try.isAgg3 ?_
            simp only [Act.put, List.setIfInBounds_toArray, List.set_cons_zero, List.set_cons_succ]
            refine wl_val (.pointer (some ⟨g2, 0, none⟩)) rfl (fun _ => by go_simp) ?_
            simp only [Act.put, List.setIfInBounds_toArray, List.set_cons_zero, List.set_cons_succ]
            refine wl_val (.pointer (some ⟨g2, kn ((T[i]!).L), none⟩)) rfl (fun w => er_arr (k := kn ((T[i]!).L)) (m := kn ((T[i]!).L)) 1 rfl rfl rfl (kn_cast _) (by omega) (by omega) Try.underlying30 (by kernel_rfl) w) ?_
            simp only [Act.put, List.setIfInBounds_toArray, List.set_cons_zero, List.set_cons_succ]
            refine wl_store_cell 1 3 (.tmp 65) (.const (.int .i64 1)) (.int .i64 (b2i (m.has (kn ((T[i]!).L))))) (.int .i64 1) rfl rfl rfl rfl rfl (rcells_has _ _ (kn_lt _)) (by kernel_rfl) rfl ?_
            simp only [Act.put, List.set_cons_zero, List.set_cons_succ]
            rw [rcells_set_has _ _ (kn_lt _)]
            refine wl_nil ?_
            refine we_then ?_
            refine wc_region ?_
            refine wl_val (.pointer (some ⟨g5, 0, none⟩)) rfl (fun _ => by go_simp) ?_
            simp only [Act.put, List.setIfInBounds_toArray, List.set_cons_zero, List.set_cons_succ]
            refine wl_cell 3 (.tmp 66) (.int .i64 ((getF ((T[i]!).L)).1)) (own_row 0 rfl) rfl rfl rfl rfl Try.isAgg3 ?_
            simp only [Act.put, List.setIfInBounds_toArray, List.set_cons_zero, List.set_cons_succ]
            refine wl_val (.pointer (some ⟨g5, 2, none⟩)) rfl (fun _ => by go_simp) ?_
            simp only [Act.put, List.setIfInBounds_toArray, List.set_cons_zero, List.set_cons_succ]
            refine wl_cell 2 (.tmp 68) (.int .i64 ((getF ((T[i]!).L)).2.2)) (own_row 0 rfl) rfl rfl rfl rfl Try.isAgg2 ?_
            simp only [Act.put, List.setIfInBounds_toArray, List.set_cons_zero, List.set_cons_succ]
            refine wl_val (.pointer (some ⟨g2, 6, none⟩)) rfl (fun _ => by go_simp) ?_
            simp only [Act.put, List.setIfInBounds_toArray, List.set_cons_zero, List.set_cons_succ]
            refine wl_val (.pointer (some ⟨g2, 6 + (kn ((T[i]!).L)), none⟩)) rfl (fun w => er_arr (k := kn ((T[i]!).L)) (m := 6 + (kn ((T[i]!).L))) 1 rfl rfl rfl (kn_cast _) (by omega) (by omega) Try.underlying26 (by kernel_rfl) w) ?_
            simp only [Act.put, List.setIfInBounds_toArray, List.set_cons_zero, List.set_cons_succ]
            refine wl_store_cell 1 2 (.tmp 71) (.tmp 69) (.int .i64 (m.val (kn ((T[i]!).L)))) (.int .i64 ((getF ((T[i]!).L)).2.2)) rfl rfl rfl rfl rfl (rcells_val _ _ (kn_lt _)) (by kernel_rfl) rfl ?_
            simp only [Act.put, List.set_cons_zero, List.set_cons_succ]
            rw [rcells_set_val _ _ (kn_lt _)]
            refine wl_nil ?_
            refine we_in ?_
            refine we_then ?_
            refine wc_region ?_
            refine wl_val (.int .i64 (i : Int)) rfl (fun _ => rfl) ?_
            simp only [Act.put, List.setIfInBounds_toArray, List.set_cons_zero, List.set_cons_succ]
            refine wl_val (.int .i64 ((i + 1 : Nat) : Int)) rfl (fun w => run_nat (X := i) (Y := 1) (Z := i + 1) rfl rfl rfl rfl (by omega) w) ?_
            simp only [Act.put, List.setIfInBounds_toArray, List.set_cons_zero, List.set_cons_succ]
            refine wl_val (.int .i64 ((i + 1 : Nat) : Int)) rfl (fun _ => rfl) ?_
            simp only [Act.put, List.setIfInBounds_toArray, List.set_cons_zero, List.set_cons_succ]
            refine wl_nil ?_
            exact we_meet ⟨(i + 1), (accept m (kn ((T[i]!).L)) ((getF ((T[i]!).L)).2.2)), y, _, _, _, _, _, _, _, _, _, _, _, _, _, _, _, _, _, _, _, _, _, _, _, _, _, _, _, _, _, _, _, _, _, _, _, _, _, _, _, _, _, _, _, _, _, _, _, _, _, _, _, _, _, _, _, _, _, _, _, _, _, _, _, _, _⟩ ⟨⟨by (try dsimp only); omega, run_snoc2 _ T i (by omega) (by omega) b2 (step_take (by omega) (by omega) ((b2i_one _).symm.trans h9)), by (try dsimp only); omega, (show m.bad ≤ i + 1 by omega), (show m.stale ≤ i + 1 by omega), (show m.twice ≤ i + 1 by omega)⟩, by (try dsimp only); omega⟩ rfl (List.Sublist.cons _ (List.Sublist.cons_cons _ (List.Sublist.cons_cons _ List.Sublist.slnil)))
          · skip
            have p9 : (b2i (m.has (kn ((T[i]!).L)))) = 1 := by simpa using h9
            refine wc_true rfl ?_
            refine wc_region ?_
            refine wl_val (.pointer (some ⟨g2, 12, none⟩)) rfl (fun _ => by go_simp) ?_
            simp only [Act.put, List.setIfInBounds_toArray, List.set_cons_zero, List.set_cons_succ]
            refine wl_val (.pointer (some ⟨g2, 14, none⟩)) rfl (fun _ => by go_simp) ?_
            simp only [Act.put, List.setIfInBounds_toArray, List.set_cons_zero, List.set_cons_succ]
            refine wl_cell 3 (.tmp 57) (.int .i64 (m.twice : Int)) (own_row 1 rfl) rfl rfl rfl rfl Try.isAgg3 ?_
            simp only [Act.put, List.setIfInBounds_toArray, List.set_cons_zero, List.set_cons_succ]
            refine wl_val (.int .i64 ((m.twice + 1 : Nat) : Int)) rfl (fun w => run_nat (X := m.twice) (Y := 1) (Z := m.twice + 1) rfl rfl rfl rfl (by omega) w) ?_
            simp only [Act.put, List.setIfInBounds_toArray, List.set_cons_zero, List.set_cons_succ]
            refine wl_val (.pointer (some ⟨g2, 12, none⟩)) rfl (fun _ => by go_simp) ?_
            simp only [Act.put, List.setIfInBounds_toArray, List.set_cons_zero, List.set_cons_succ]
            refine wl_val (.pointer (some ⟨g2, 14, none⟩)) rfl (fun _ => by go_simp) ?_
            simp only [Act.put, List.setIfInBounds_toArray, List.set_cons_zero, List.set_cons_succ]
            refine wl_store_cell 1 3 (.tmp 61) (.tmp 59) (.int .i64 (m.twice : Int)) (.int .i64 ((m.twice + 1 : Nat) : Int)) rfl rfl rfl rfl rfl rfl (by kernel_rfl) rfl ?_
            simp only [Act.put, List.set_cons_zero, List.set_cons_succ]
            refine wl_nil ?_
            refine we_in ?_
            refine we_then ?_
            refine wc_region ?_
            refine wl_val (.int .i64 (i : Int)) rfl (fun _ => rfl) ?_
            simp only [Act.put, List.setIfInBounds_toArray, List.set_cons_zero, List.set_cons_succ]
            refine wl_val (.int .i64 ((i + 1 : Nat) : Int)) rfl (fun w => run_nat (X := i) (Y := 1) (Z := i + 1) rfl rfl rfl rfl (by omega) w) ?_
            simp only [Act.put, List.setIfInBounds_toArray, List.set_cons_zero, List.set_cons_succ]
            refine wl_val (.int .i64 ((i + 1 : Nat) : Int)) rfl (fun _ => rfl) ?_
            simp only [Act.put, List.setIfInBounds_toArray, List.set_cons_zero, List.set_cons_succ]
            refine wl_nil ?_
            exact we_meet ⟨(i + 1), (addTwice m), y, _, _, _, _, _, _, _, _, _, _, _, _, _, _, _, _, _, _, _, _, _, _, _, _, _, _, _, _, _, _, _, _, _, _, _, _, _, _, _, _, _, _, _, _, _, _, _, _, _, _, _, _, _, _, _, _, _, _, _, _, _, _, _, _, _⟩ ⟨⟨by (try dsimp only); omega, run_snoc2 _ T i (by omega) (by omega) b2 (step_twice (by omega) (by omega) ((b2i_one _).symm.trans h9)), by (try dsimp only); omega, (show m.bad ≤ i + 1 by omega), (show m.stale ≤ i + 1 by omega), (show m.twice + 1 ≤ i + 1 by omega)⟩, by (try dsimp only); omega⟩ rfl (List.Sublist.cons _ (List.Sublist.cons_cons _ (List.Sublist.cons_cons _ List.Sublist.slnil)))
        · skip
          have p8 : ((getF ((T[i]!).L)).2.1) ≠ (cy % 256) := by simpa using h8
          refine wc_true rfl ?_
          refine wc_region ?_
          refine wl_val (.pointer (some ⟨g2, 12, none⟩)) rfl (fun _ => by go_simp) ?_
          simp only [Act.put, List.setIfInBounds_toArray, List.set_cons_zero, List.set_cons_succ]
          refine wl_val (.pointer (some ⟨g2, 13, none⟩)) rfl (fun _ => by go_simp) ?_
          simp only [Act.put, List.setIfInBounds_toArray, List.set_cons_zero, List.set_cons_succ]
          refine wl_cell 3 (.tmp 45) (.int .i64 (m.stale : Int)) (own_row 1 rfl) rfl rfl rfl rfl Try.isAgg3 ?_
          simp only [Act.put, List.setIfInBounds_toArray, List.set_cons_zero, List.set_cons_succ]
          refine wl_val (.int .i64 ((m.stale + 1 : Nat) : Int)) rfl (fun w => run_nat (X := m.stale) (Y := 1) (Z := m.stale + 1) rfl rfl rfl rfl (by omega) w) ?_
          simp only [Act.put, List.setIfInBounds_toArray, List.set_cons_zero, List.set_cons_succ]
          refine wl_val (.pointer (some ⟨g2, 12, none⟩)) rfl (fun _ => by go_simp) ?_
          simp only [Act.put, List.setIfInBounds_toArray, List.set_cons_zero, List.set_cons_succ]
          refine wl_val (.pointer (some ⟨g2, 13, none⟩)) rfl (fun _ => by go_simp) ?_
          simp only [Act.put, List.setIfInBounds_toArray, List.set_cons_zero, List.set_cons_succ]
          refine wl_store_cell 1 3 (.tmp 49) (.tmp 47) (.int .i64 (m.stale : Int)) (.int .i64 ((m.stale + 1 : Nat) : Int)) rfl rfl rfl rfl rfl rfl (by kernel_rfl) rfl ?_
          simp only [Act.put, List.set_cons_zero, List.set_cons_succ]
          refine wl_nil ?_
          refine we_in ?_
          refine we_then ?_
          refine wc_region ?_
          refine wl_val (.int .i64 (i : Int)) rfl (fun _ => rfl) ?_
          simp only [Act.put, List.setIfInBounds_toArray, List.set_cons_zero, List.set_cons_succ]
          refine wl_val (.int .i64 ((i + 1 : Nat) : Int)) rfl (fun w => run_nat (X := i) (Y := 1) (Z := i + 1) rfl rfl rfl rfl (by omega) w) ?_
          simp only [Act.put, List.setIfInBounds_toArray, List.set_cons_zero, List.set_cons_succ]
          refine wl_val (.int .i64 ((i + 1 : Nat) : Int)) rfl (fun _ => rfl) ?_
          simp only [Act.put, List.setIfInBounds_toArray, List.set_cons_zero, List.set_cons_succ]
          refine wl_nil ?_
          exact we_meet ⟨(i + 1), (addStale m), y, _, _, _, _, _, _, _, _, _, _, _, _, _, _, _, _, _, _, _, _, _, _, _, _, _, _, _, _, _, _, _, _, _, _, _, _, _, _, _, _, _, _, _, _, _, _, _, _, _, _, _, _, _, _, _, _, _, _, _, _, _, _, _, _, _⟩ ⟨⟨by (try dsimp only); omega, run_snoc2 _ T i (by omega) (by omega) b2 (step_stale (by omega) (by omega)), by (try dsimp only); omega, (show m.bad ≤ i + 1 by omega), (show m.stale + 1 ≤ i + 1 by omega), (show m.twice ≤ i + 1 by omega)⟩, by (try dsimp only); omega⟩ rfl (List.Sublist.cons _ (List.Sublist.cons_cons _ (List.Sublist.cons_cons _ List.Sublist.slnil)))
      · skip
        have p6 : ((getE ((T[i]!).L) : Nat) : Int) ≠ 0 := by simpa using h6
        refine wc_true rfl ?_
        refine wc_region ?_
        refine wl_val (.pointer (some ⟨g2, 12, none⟩)) rfl (fun _ => by go_simp) ?_
        simp only [Act.put, List.setIfInBounds_toArray, List.set_cons_zero, List.set_cons_succ]
        refine wl_val (.pointer (some ⟨g2, 12, none⟩)) rfl (fun _ => by go_simp) ?_
        simp only [Act.put, List.setIfInBounds_toArray, List.set_cons_zero, List.set_cons_succ]
        refine wl_cell 3 (.tmp 34) (.int .i64 (m.bad : Int)) (own_row 1 rfl) rfl rfl rfl rfl Try.isAgg3 ?_
        simp only [Act.put, List.setIfInBounds_toArray, List.set_cons_zero, List.set_cons_succ]
        refine wl_val (.int .i64 ((m.bad + 1 : Nat) : Int)) rfl (fun w => run_nat (X := m.bad) (Y := 1) (Z := m.bad + 1) rfl rfl rfl rfl (by omega) w) ?_
        simp only [Act.put, List.setIfInBounds_toArray, List.set_cons_zero, List.set_cons_succ]
        refine wl_val (.pointer (some ⟨g2, 12, none⟩)) rfl (fun _ => by go_simp) ?_
        simp only [Act.put, List.setIfInBounds_toArray, List.set_cons_zero, List.set_cons_succ]
        refine wl_val (.pointer (some ⟨g2, 12, none⟩)) rfl (fun _ => by go_simp) ?_
        simp only [Act.put, List.setIfInBounds_toArray, List.set_cons_zero, List.set_cons_succ]
        refine wl_store_cell 1 3 (.tmp 38) (.tmp 36) (.int .i64 (m.bad : Int)) (.int .i64 ((m.bad + 1 : Nat) : Int)) rfl rfl rfl rfl rfl rfl (by kernel_rfl) rfl ?_
        simp only [Act.put, List.set_cons_zero, List.set_cons_succ]
        refine wl_nil ?_
        refine we_in ?_
        refine we_then ?_
        refine wc_region ?_
        refine wl_val (.int .i64 (i : Int)) rfl (fun _ => rfl) ?_
        simp only [Act.put, List.setIfInBounds_toArray, List.set_cons_zero, List.set_cons_succ]
        refine wl_val (.int .i64 ((i + 1 : Nat) : Int)) rfl (fun w => run_nat (X := i) (Y := 1) (Z := i + 1) rfl rfl rfl rfl (by omega) w) ?_
        simp only [Act.put, List.setIfInBounds_toArray, List.set_cons_zero, List.set_cons_succ]
        refine wl_val (.int .i64 ((i + 1 : Nat) : Int)) rfl (fun _ => rfl) ?_
        simp only [Act.put, List.setIfInBounds_toArray, List.set_cons_zero, List.set_cons_succ]
        refine wl_nil ?_
        exact we_meet ⟨(i + 1), (addBad m), y, _, _, _, _, _, _, _, _, _, _, _, _, _, _, _, _, _, _, _, _, _, _, _, _, _, _, _, _, _, _, _, _, _, _, _, _, _, _, _, _, _, _, _, _, _, _, _, _, _, _, _, _, _, _, _, _, _, _, _, _, _, _, _, _, _⟩ ⟨⟨by (try dsimp only); omega, run_snoc2 _ T i (by omega) (by omega) b2 (step_bad (by omega)), by (try dsimp only); omega, (show m.bad + 1 ≤ i + 1 by omega), (show m.stale ≤ i + 1 by omega), (show m.twice ≤ i + 1 by omega)⟩, by (try dsimp only); omega⟩ rfl (List.Sublist.cons _ (List.Sublist.cons_cons _ (List.Sublist.cons_cons _ List.Sublist.slnil)))
    · skip
      have p4 : 32 ≤ (i : Int) := of_decide_eq_true h4
      refine wc_true rfl ?_
      refine wc_seq ?_
      refine wc_region ?_
      refine wl_val (.pointer (some ⟨g2, 12, none⟩)) rfl (fun _ => by go_simp) ?_
      simp only [Act.put, List.setIfInBounds_toArray, List.set_cons_zero, List.set_cons_succ]
      refine wl_val (.pointer (some ⟨g2, 15, none⟩)) rfl (fun _ => by go_simp) ?_
      simp only [Act.put, List.setIfInBounds_toArray, List.set_cons_zero, List.set_cons_succ]
      refine wl_cell 3 (.tmp 18) (.int .i64 (y : Int)) (own_row 0 rfl) rfl rfl rfl rfl Try.isAgg3 ?_
      simp only [Act.put, List.setIfInBounds_toArray, List.set_cons_zero, List.set_cons_succ]
      refine wl_val (.int .i64 ((y + 1 : Nat) : Int)) rfl (fun w => run_nat (X := y) (Y := 1) (Z := y + 1) rfl rfl rfl rfl (by omega) w) ?_
      simp only [Act.put, List.setIfInBounds_toArray, List.set_cons_zero, List.set_cons_succ]
      refine wl_val (.pointer (some ⟨g2, 12, none⟩)) rfl (fun _ => by go_simp) ?_
      simp only [Act.put, List.setIfInBounds_toArray, List.set_cons_zero, List.set_cons_succ]
      refine wl_val (.pointer (some ⟨g2, 15, none⟩)) rfl (fun _ => by go_simp) ?_
      simp only [Act.put, List.setIfInBounds_toArray, List.set_cons_zero, List.set_cons_succ]
      refine wl_store_cell 0 3 (.tmp 22) (.tmp 20) (.int .i64 (y : Int)) (.int .i64 ((y + 1 : Nat) : Int)) rfl rfl rfl rfl rfl rfl (by kernel_rfl) rfl ?_
      simp only [Act.put, List.set_cons_zero]
      refine wl_nil ?_
      refine we_then ?_
      refine wc_exit ?_
      refine we_then_exit ?_
      refine we_in_here ?_
      refine we_then ?_
      refine wc_region ?_
      refine wl_val (.int .i64 (i : Int)) rfl (fun _ => rfl) ?_
      simp only [Act.put, List.setIfInBounds_toArray, List.set_cons_zero, List.set_cons_succ]
      refine wl_val (.int .i64 ((i + 1 : Nat) : Int)) rfl (fun w => run_nat (X := i) (Y := 1) (Z := i + 1) rfl rfl rfl rfl (by omega) w) ?_
      simp only [Act.put, List.setIfInBounds_toArray, List.set_cons_zero, List.set_cons_succ]
      refine wl_val (.int .i64 ((i + 1 : Nat) : Int)) rfl (fun _ => rfl) ?_
      simp only [Act.put, List.setIfInBounds_toArray, List.set_cons_zero, List.set_cons_succ]
      refine wl_nil ?_
      exact we_meet ⟨(i + 1), m, (y + 1), _, _, _, _, _, _, _, _, _, _, _, _, _, _, _, _, _, _, _, _, _, _, _, _, _, _, _, _, _, _, _, _, _, _, _, _, _, _, _, _, _, _, _, _, _, _, _, _, _, _, _, _, _, _, _, _, _, _, _, _, _, _, _, _, _⟩ ⟨⟨by (try dsimp only); omega, run_high _ T i (by omega) b2, by (try dsimp only); omega, (show m.bad ≤ i + 1 by omega), (show m.stale ≤ i + 1 by omega), (show m.twice ≤ i + 1 by omega)⟩, by (try dsimp only); omega⟩ rfl (List.Sublist.cons_cons _ (List.Sublist.cons_cons _ List.Sublist.slnil))
def ofB (h : Nat → Bool) (k : Int) : Bool := if 0 ≤ k ∧ k < 6 then h k.toNat else false
def ofV (v : Nat → Int) (k : Int) : Int := if 0 ≤ k ∧ k < 6 then v k.toNat else 0
theorem of_no (h : Nat → Bool) (v : Nat → Int) {k : Int} (hk : k < 0 ∨ 6 ≤ k) : ofB h k = false ∧ ofV v k = 0 := by unfold ofB ofV; rw [if_neg (by omega), if_neg (by omega)]; exact ⟨rfl, rfl⟩
theorem of_yes (h : Nat → Bool) (v : Nat → Int) {k : Int} (h0 : 0 ≤ k) (h6 : k < 6) : ofB h k = h k.toNat ∧ ofV v k = v k.toNat := by unfold ofB ofV; rw [if_pos ⟨h0, h6⟩, if_pos ⟨h0, h6⟩]; exact ⟨rfl, rfl⟩
set_option maxHeartbeats 2000000 in
theorem of_any (h : Nat → Bool) (v : Nat → Int) (b s t y : Int) (k : Int) (w : World) :
    Calls Try.prog 12 #[.agg (mrow h v b s t y).toArray, .int .i64 k] w fun e w' => e = .returned (.tuple #[.int .i64 (ofV v k), .bool (ofB h k)]) ∧ Below w.heap.size w w' := by
  refine calls_sx Try.func12 rfl ?_
  simp only [Try.ntmps12, List.size_toArray, List.length_cons, List.length_nil, Nat.reduceAdd, Nat.reduceSub, Array.replicate_succ, Array.replicate_zero, List.push_toArray, List.append_toArray, List.nil_append, List.cons_append]
  refine wc_seq ?_
  refine wc_region ?_
  refine wl_new 28 ((mrow h v b s t y).toArray) rfl (fun _ => by go_simp) ?_
  intro g1
  simp only [Act.put, List.setIfInBounds_toArray, List.set_cons_zero, List.set_cons_succ]
  refine wl_val (.int .i64 0) rfl (fun _ => rfl) ?_
  simp only [Act.put, List.setIfInBounds_toArray, List.set_cons_zero, List.set_cons_succ]
  refine wl_val (.bool false) rfl (fun _ => rfl) ?_
  simp only [Act.put, List.setIfInBounds_toArray, List.set_cons_zero, List.set_cons_succ]
  refine wl_nil ?_
  refine we_then ?_
  refine wc_seq ?_
  refine wc_seq ?_
  refine wc_region ?_
  refine wl_val (.int .i64 k) rfl (fun _ => rfl) ?_
  simp only [Act.put, List.setIfInBounds_toArray, List.set_cons_zero, List.set_cons_succ]
  refine wl_val (.bool (decide (k < 0))) rfl (fun w => run_cmp rfl rfl rfl Try.underlying3 rfl w) ?_
  simp only [Act.put, List.setIfInBounds_toArray, List.set_cons_zero, List.set_cons_succ]
  refine wl_val (.bool (decide (k < 0))) rfl (fun _ => rfl) ?_
  simp only [Act.put, List.setIfInBounds_toArray, List.set_cons_zero, List.set_cons_succ]
  cases h2 : (decide (k < 0))
  · skip
    have p2 : ¬ (k < 0) := of_decide_eq_false h2
    refine wl_val (.int .i64 k) rfl (fun _ => rfl) ?_
    simp only [Act.put, List.setIfInBounds_toArray, List.set_cons_zero, List.set_cons_succ]
    refine wl_val (.bool (decide (6 ≤ k))) rfl (fun w => run_cmp rfl rfl rfl Try.underlying3 rfl w) ?_
    simp only [Act.put, List.setIfInBounds_toArray, List.set_cons_zero, List.set_cons_succ]
    refine wl_val (.bool (decide (6 ≤ k))) rfl (fun _ => rfl) ?_
    simp only [Act.put, List.setIfInBounds_toArray, List.set_cons_zero, List.set_cons_succ]
    refine wl_nil ?_
    refine we_then ?_
    cases h3 : (decide (6 ≤ k))
    · skip
      have p3 : ¬ (6 ≤ k) := of_decide_eq_false h3
      refine wc_false rfl ?_
      refine wc_skip ?_
      refine we_then ?_
      refine wc_seq ?_
      refine wc_draw [.late, .late, .plain, .plain, .late, .late, .plain, .plain, .late, .late] none [] 20 (by kernel_rfl) rfl (by kernel_rfl) (by kernel_rfl) ?_
      refine ws_late (.int .i64 k) rfl rfl (fun _ => rfl) ?_
      simp only [Nat.reduceAdd, Act.put, List.setIfInBounds_toArray, List.set_cons_zero, List.set_cons_succ]
      refine ws_late (.pointer (some ⟨g1, 6, none⟩)) rfl rfl (fun _ => by go_simp) ?_
      simp only [Nat.reduceAdd, Act.put, List.setIfInBounds_toArray, List.set_cons_zero, List.set_cons_succ]
      refine ws_val (.pointer (some ⟨g1, 6 + k.toNat, none⟩)) rfl rfl (fun w => er_arr (k := k.toNat) (m := 6 + k.toNat) 1 rfl rfl rfl (by omega) (by omega) (by omega) Try.underlying26 (by kernel_rfl) w) ?_
      simp only [Nat.reduceAdd, Act.put, List.setIfInBounds_toArray, List.set_cons_zero, List.set_cons_succ]
      refine ws_cell 2 (.tmp 14) (.int .i64 (v k.toNat)) (own_row 0 rfl) rfl rfl rfl rfl (mrow_val _ _ _ _ _ _ (by omega)) Try.isAgg2 ?_
      simp only [Nat.reduceAdd, Act.put, List.setIfInBounds_toArray, List.set_cons_zero, List.set_cons_succ]
      refine ws_late (.int .i64 k) rfl rfl (fun _ => rfl) ?_
      simp only [Nat.reduceAdd, Act.put, List.setIfInBounds_toArray, List.set_cons_zero, List.set_cons_succ]
      refine ws_late (.pointer (some ⟨g1, 0, none⟩)) rfl rfl (fun _ => by go_simp) ?_
      simp only [Nat.reduceAdd, Act.put, List.setIfInBounds_toArray, List.set_cons_zero, List.set_cons_succ]
      refine ws_val (.pointer (some ⟨g1, k.toNat, none⟩)) rfl rfl (fun w => er_arr (k := k.toNat) (m := k.toNat) 1 rfl rfl rfl (by omega) (by omega) (by omega) Try.underlying25 (by kernel_rfl) w) ?_
      simp only [Nat.reduceAdd, Act.put, List.setIfInBounds_toArray, List.set_cons_zero, List.set_cons_succ]
      refine ws_cell 4 (.tmp 18) (.bool (h k.toNat)) (own_row 0 rfl) rfl rfl rfl rfl (mrow_has _ _ _ _ _ _ (by omega)) Try.isAgg4 ?_
      simp only [Nat.reduceAdd, Act.put, List.setIfInBounds_toArray, List.set_cons_zero, List.set_cons_succ]
      refine ws_late (.int .i64 (v k.toNat)) rfl rfl (fun _ => rfl) ?_
      simp only [Nat.reduceAdd, Act.put, List.setIfInBounds_toArray, List.set_cons_zero, List.set_cons_succ]
      refine ws_late (.bool (h k.toNat)) rfl rfl (fun _ => rfl) ?_
      simp only [Nat.reduceAdd, Act.put, List.setIfInBounds_toArray, List.set_cons_zero, List.set_cons_succ]
      refine ws_nil [] trivial (by simp) ?_
      intro ps4
      simp only [fin, List.foldl_nil, List.map, List.nil_append]
      refine we_then ?_
      refine wc_ret ?_
      refine we_ret2 (.int .i64 (v k.toNat)) (.bool (h k.toNat)) rfl rfl rfl rfl (fun w1 hE => ?_)
      obtain ⟨e1, e2⟩ := of_yes h v (k := k) (by omega) (by omega)
      exact ⟨by rw [e1, e2], hE.below⟩
    · skip
      have p3 : 6 ≤ k := of_decide_eq_true h3
      refine wc_true rfl ?_
      refine wc_seq ?_
      refine wc_region ?_
      refine wl_val (.int .i64 0) rfl (fun _ => rfl) ?_
      simp only [Act.put, List.setIfInBounds_toArray, List.set_cons_zero, List.set_cons_succ]
      refine wl_val (.bool false) rfl (fun _ => rfl) ?_
      simp only [Act.put, List.setIfInBounds_toArray, List.set_cons_zero, List.set_cons_succ]
      refine wl_nil ?_
      refine we_then ?_
      refine wc_ret ?_
      refine we_then_ret ?_
      refine we_ret2 (.int .i64 0) (.bool false) rfl rfl rfl rfl (fun w1 hE => ?_)
      obtain ⟨e1, e2⟩ := of_no h v (k := k) (by omega)
      exact ⟨by rw [e1, e2], hE.below⟩
  · skip
    have p2 : k < 0 := of_decide_eq_true h2
    refine wl_skip rfl ?_
    simp only [Act.put, List.setIfInBounds_toArray, List.set_cons_zero, List.set_cons_succ]
    refine wl_skip rfl ?_
    simp only [Act.put, List.setIfInBounds_toArray, List.set_cons_zero, List.set_cons_succ]
    refine wl_val (.bool true) rfl (fun _ => rfl) ?_
    simp only [Act.put, List.setIfInBounds_toArray, List.set_cons_zero, List.set_cons_succ]
    refine wl_nil ?_
    refine we_then ?_
    refine wc_true rfl ?_
    refine wc_seq ?_
    refine wc_region ?_
    refine wl_val (.int .i64 0) rfl (fun _ => rfl) ?_
    simp only [Act.put, List.setIfInBounds_toArray, List.set_cons_zero, List.set_cons_succ]
    refine wl_val (.bool false) rfl (fun _ => rfl) ?_
    simp only [Act.put, List.setIfInBounds_toArray, List.set_cons_zero, List.set_cons_succ]
    refine wl_nil ?_
    refine we_then ?_
    refine wc_ret ?_
    refine we_then_ret ?_
    refine we_ret2 (.int .i64 0) (.bool false) rfl rfl rfl rfl (fun w1 hE => ?_)
    obtain ⟨e1, e2⟩ := of_no h v (k := k) (by omega)
    exact ⟨by rw [e1, e2], hE.below⟩
theorem run_eq4 {o : Oper} {a : Act} {t t' : TypeId} {x y : Operand} {b s c d b' s' c' d' : Int} (ho : o.op = .binOp .eql t x y t') (hx : a.eval x = .agg #[.int .i64 b, .int .i64 s, .int .i64 c, .int .i64 d]) (hy : a.eval y = .agg #[.int .i64 b', .int .i64 s', .int .i64 c', .int .i64 d'])
    (hu : Try.prog.underlying t = some (.array 4 3)) (hg : ∀ X Y (w : World), (eqGuard .eql t x y (.agg X) (.agg Y)).run Try.prog w = .ok () w) (w : World) : (execOp a.eval o).run Try.prog w = .ok (.value (.bool (b == b' && s == s' && c == c' && d == d'))) w :=
  run_eqR ho hx hy (hg _ _) (fun w => by
    have := run_equalIn_list (P := Try.prog) 9998 .i64 t 3 [b, s, c, d] [b', s', c', d'] rfl w hu Try.underlying3 (by kernel_rfl)
    rw [show ([b, s, c, d] == [b', s', c', d']) = (b == b' && s == s' && c == c' && d == d') by simp [Bool.and_assoc]] at this
    exact this) w
set_option maxHeartbeats 2000000 in
theorem quiet_any (h : Nat → Bool) (v : Nat → Int) (b s t y : Int) (w : World) :
    Calls Try.prog 13 #[.agg (mrow h v b s t y).toArray] w fun e w' => e = .returned (.bool (b == 0 && s == 0 && t == 0 && y == 0)) ∧ Below w.heap.size w w' := by
  refine calls_sx Try.func13 rfl ?_
  simp only [Try.ntmps13, List.size_toArray, List.length_cons, List.length_nil, Nat.reduceAdd, Nat.reduceSub, Array.replicate_succ, Array.replicate_zero, List.push_toArray, List.append_toArray, List.nil_append, List.cons_append]
  refine wc_seq ?_
  refine wc_region ?_
  refine wl_new 28 ((mrow h v b s t y).toArray) rfl (fun _ => by go_simp) ?_
  intro g1
  simp only [Act.put, List.setIfInBounds_toArray, List.set_cons_zero, List.set_cons_succ]
  refine wl_val (.bool false) rfl (fun _ => rfl) ?_
  simp only [Act.put, List.setIfInBounds_toArray, List.set_cons_zero, List.set_cons_succ]
  refine wl_nil ?_
  refine we_then ?_
  refine wc_seq ?_
  refine wc_region ?_
  refine wl_val (.pointer (some ⟨g1, 12, none⟩)) rfl (fun _ => by go_simp) ?_
  simp only [Act.put, List.setIfInBounds_toArray, List.set_cons_zero, List.set_cons_succ]
  refine wl_cell 3 (.tmp 3) (.int .i64 b) (own_row 0 rfl) rfl rfl rfl rfl Try.isAgg3 ?_
  simp only [Act.put, List.setIfInBounds_toArray, List.set_cons_zero, List.set_cons_succ]
  refine wl_val (.pointer (some ⟨g1, 13, none⟩)) rfl (fun _ => by go_simp) ?_
  simp only [Act.put, List.setIfInBounds_toArray, List.set_cons_zero, List.set_cons_succ]
  refine wl_cell 3 (.tmp 5) (.int .i64 s) (own_row 0 rfl) rfl rfl rfl rfl Try.isAgg3 ?_
  simp only [Act.put, List.setIfInBounds_toArray, List.set_cons_zero, List.set_cons_succ]
  refine wl_val (.pointer (some ⟨g1, 14, none⟩)) rfl (fun _ => by go_simp) ?_
  simp only [Act.put, List.setIfInBounds_toArray, List.set_cons_zero, List.set_cons_succ]
  refine wl_cell 3 (.tmp 7) (.int .i64 t) (own_row 0 rfl) rfl rfl rfl rfl Try.isAgg3 ?_
  simp only [Act.put, List.setIfInBounds_toArray, List.set_cons_zero, List.set_cons_succ]
  refine wl_val (.pointer (some ⟨g1, 15, none⟩)) rfl (fun _ => by go_simp) ?_
  simp only [Act.put, List.setIfInBounds_toArray, List.set_cons_zero, List.set_cons_succ]
  refine wl_cell 3 (.tmp 9) (.int .i64 y) (own_row 0 rfl) rfl rfl rfl rfl Try.isAgg3 ?_
  simp only [Act.put, List.setIfInBounds_toArray, List.set_cons_zero, List.set_cons_succ]
  refine wl_val (.agg #[.int .i64 b, .int .i64 s, .int .i64 t, .int .i64 y]) rfl (fun _ => by go_simp) ?_
  simp only [Act.put, List.setIfInBounds_toArray, List.set_cons_zero, List.set_cons_succ]
  refine wl_val (.agg #[.int .i64 0, .int .i64 0, .int .i64 0, .int .i64 0]) rfl (fun _ => by go_simp) ?_
  simp only [Act.put, List.setIfInBounds_toArray, List.set_cons_zero, List.set_cons_succ]
  refine wl_val (.bool (b == 0 && s == 0 && t == 0 && y == 0)) rfl (fun w => run_eq4 rfl rfl rfl Try.underlying31 (fun _ _ _ => by go_simp) w) ?_
  simp only [Act.put, List.setIfInBounds_toArray, List.set_cons_zero, List.set_cons_succ]
  refine wl_val (.bool (b == 0 && s == 0 && t == 0 && y == 0)) rfl (fun _ => rfl) ?_
  simp only [Act.put, List.setIfInBounds_toArray, List.set_cons_zero, List.set_cons_succ]
  refine wl_nil ?_
  refine we_then ?_
  refine wc_ret ?_
  refine we_ret1 (.bool (b == 0 && s == 0 && t == 0 && y == 0)) rfl rfl rfl (fun w1 hE => ?_)
  exact ⟨rfl, hE.below⟩
end Go.Proofs.Ytggdmchhnnjfiaa.Mal
