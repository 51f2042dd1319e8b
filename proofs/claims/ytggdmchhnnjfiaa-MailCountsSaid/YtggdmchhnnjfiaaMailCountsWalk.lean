/-
  MailCounts: the law's walk. No condition.
-/
import Derived.Test.YtggdmchhnnjfiaaMlw
namespace Go.Proofs.Ytggdmchhnnjfiaa.Walks
open Go.ChangeShapes Go.WideShapes Go.ChangeAt Go.RowKit
open Arr Steady Sx Sw Sl Sb Sc Cr Fr Frm Flaw Ml Si Mal Mlw
set_option linter.unusedVariables false
set_option linter.unusedSimpArgs false
set_option maxRecDepth 100000

theorem run_index {P : Program} {o : Oper} {a : Act} {x y : Operand} {t e : TypeId} {n k : Nat} {kk : IntKind} {E : Int} {cs : Array Value} {v : Value} (ho : o.op = .index t x y) (hx : a.eval x = .agg cs) (hy : a.eval y = .int kk E) (he : E = (k : Int)) (hk : k < 6) (hn : k < n) (hu : P.underlying t = some (.array n e))
    (hd : ∀ w, (isAgg e).run P w = .ok false w) (hs : (P.info? e).map (·.size) = some 1) (hv : cs[k]? = some v) (w : World) : (execOp a.eval o).run P w = .ok (.value v) w := by
  subst he
  cases hq : P.info? e with
  | none => simp [hq] at hs
  | some i =>
    have hz : i.size = 1 := by simpa [hq] using hs
    unfold execOp
    simp only [ho, hx, hy]
    simp [Instr.index, asIntOf, run_underlying hu, sizeOf, typeInfo, hq, hz, hn, part, hd, hv]
theorem mhas_at (M : Ml) {i : Nat} (h : i < 6) : (#[.bool (M.has 0), .bool (M.has 1), .bool (M.has 2), .bool (M.has 3), .bool (M.has 4), .bool (M.has 5)] : Array Value)[i]? = some (.bool (M.has i)) := by
  rcases six h with rfl | rfl | rfl | rfl | rfl | rfl <;> rfl
theorem cnt_yes {h : Nat → Bool} {i q b : Nat} (hq : q = b + cnt h i) (e : h i = true) : q + 1 = b + cnt h (i + 1) := by
  show _ = b + (cnt h i + if h i = true then 1 else 0)
  rw [if_pos e]
  omega
theorem cnt_no {h : Nat → Bool} {i q b : Nat} (hq : q = b + cnt h i) (e : h i = false) : q = b + cnt h (i + 1) := by
  show _ = b + (cnt h i + if h i = true then 1 else 0)
  rw [e]
  exact hq
theorem cnt_le (h : Nat → Bool) (i : Nat) : cnt h i ≤ i := by
  induction i with
  | zero => exact Nat.le_refl _
  | succ i ih =>
    show cnt h i + (if h i = true then 1 else 0) ≤ i + 1
    split <;> omega
set_option maxHeartbeats 2000000 in
theorem mailCounts_walk (cy : Int) (wcy : (Lit.int .i64 cy).wf = true) (T : List Tx) (p : Option Addr) (n c : Nat) (w : World) (hl : T.length = n) (hS : Reads w p (flat tx T)) (hT : OkT w T) (hc : n ≤ c) (hm : c ≤ maxLen) :
    Calls Try.prog 4 #[.int .i64 cy, .slice p n c] w fun e w' => e = .returned (.bool true) ∧ Below w.heap.size w w' := by
  obtain ⟨M, hM⟩ : ∃ M, sort (cy % 256) (ls T) = M := ⟨_, rfl⟩
  have cb := counts_sort (cy % 256) (ls T)
  rw [hM] at cb
  refine calls_sx Try.func4 rfl ?_
  simp only [Try.ntmps4, List.size_toArray, List.length_cons, List.length_nil, Nat.reduceAdd, Nat.reduceSub, Array.replicate_succ, Array.replicate_zero, List.push_toArray, List.append_toArray, List.nil_append, List.cons_append]
  refine wc_seq ?_
  refine wc_region ?_
  refine wl_val (.bool false) rfl (fun _ => rfl) ?_
  simp only [Act.put, List.setIfInBounds_toArray, List.set_cons_zero, List.set_cons_succ]
  refine wl_nil ?_
  refine we_then ?_
  refine wc_seq ?_
  refine wc_seq ?_
  refine wc_region ?_
  refine wl_call 8 #[] (.bool true) rfl (fun _ => by go_simp) (fun W => Mlw.anchor_any W) ?_
  simp only [Act.put, List.setIfInBounds_toArray, List.set_cons_zero, List.set_cons_succ]
  refine wl_val (.bool false) rfl (fun _ => by go_simp) ?_
  simp only [Act.put, List.setIfInBounds_toArray, List.set_cons_zero, List.set_cons_succ]
  refine wl_nil ?_
  refine we_then ?_
  refine wc_false rfl ?_
  refine wc_skip ?_
  refine we_then ?_
  refine wc_seq ?_
  refine wc_seq ?_
  refine wc_region ?_
  refine wl_val (.slice p n c) rfl (fun _ => rfl) ?_
  simp only [Act.put, List.setIfInBounds_toArray, List.set_cons_zero, List.set_cons_succ]
  refine wl_call_at 9 #[.slice p n c] (.bool (gr T)) rfl (fun _ => by go_simp) (fun W hE => great_any T _ _ _ W hl ((sl_old hS) W hE) (Nat.le_trans hc hm)) ?_
  simp only [Act.put, List.setIfInBounds_toArray, List.set_cons_zero, List.set_cons_succ]
  refine wl_nil ?_
  refine we_then ?_
  cases h1 : (gr T)
  · skip
    obtain ⟨sh, l1⟩ := gr_no h1
    have l2 : n ≤ 100 := by omega
    refine wc_false rfl ?_
    refine wc_skip ?_
    refine we_then ?_
    refine wc_seq ?_
    refine wc_region ?_
    refine wl_val (.int .i64 cy) rfl (fun _ => rfl) ?_
    simp only [Act.put, List.setIfInBounds_toArray, List.set_cons_zero, List.set_cons_succ]
    refine wl_val (.slice p n c) rfl (fun _ => rfl) ?_
    simp only [Act.put, List.setIfInBounds_toArray, List.set_cons_zero, List.set_cons_succ]
    refine wl_call_at 10 #[.int .i64 cy, .slice p n c] (.agg (mcells M (n - 32)).toArray) rfl (fun _ => by go_simp) (fun W hE => sort_any cy T _ _ _ M W hl ((sl_old hS) W hE) (ok_below hT hE.below) sh (by omega) hc hM) ?_
    simp only [Act.put, List.setIfInBounds_toArray, List.set_cons_zero, List.set_cons_succ]
    refine wl_new 28 (#[.bool false, .bool false, .bool false, .bool false, .bool false, .bool false, .int .i64 0, .int .i64 0, .int .i64 0, .int .i64 0, .int .i64 0, .int .i64 0, .int .i64 0, .int .i64 0, .int .i64 0, .int .i64 0]) rfl (fun _ => by go_simp) ?_
    intro g2
    simp only [Act.put, List.setIfInBounds_toArray, List.set_cons_zero, List.set_cons_succ]
    refine wl_store 0 28 (.tmp 5) (.tmp 15) ((mcells M (n - 32)).toArray) rfl rfl rfl rfl rfl (by kernel_rfl) rfl (mrow_one _ _ _ _ _ _) ?_
    simp only [Act.put, List.set_cons_zero]
    refine wl_nil ?_
    refine we_then ?_
    refine wc_seq ?_
    refine wc_region ?_
    refine wl_val (.pointer (some ⟨g2, 12, none⟩)) rfl (fun _ => by go_simp) ?_
    simp only [Act.put, List.setIfInBounds_toArray, List.set_cons_zero, List.set_cons_succ]
    refine wl_cell 3 (.tmp 16) (.int .i64 (M.bad : Int)) (own_row 0 rfl) rfl rfl rfl rfl Try.isAgg3 ?_
    simp only [Act.put, List.setIfInBounds_toArray, List.set_cons_zero, List.set_cons_succ]
    refine wl_val (.pointer (some ⟨g2, 13, none⟩)) rfl (fun _ => by go_simp) ?_
    simp only [Act.put, List.setIfInBounds_toArray, List.set_cons_zero, List.set_cons_succ]
    refine wl_cell 3 (.tmp 18) (.int .i64 (M.stale : Int)) (own_row 0 rfl) rfl rfl rfl rfl Try.isAgg3 ?_
    simp only [Act.put, List.setIfInBounds_toArray, List.set_cons_zero, List.set_cons_succ]
    refine wl_val (.int .i64 ((M.bad + M.stale : Nat) : Int)) rfl (fun w => run_nat (X := M.bad) (Y := M.stale) (Z := M.bad + M.stale) rfl rfl rfl rfl (by omega) w) ?_
    simp only [Act.put, List.setIfInBounds_toArray, List.set_cons_zero, List.set_cons_succ]
    refine wl_val (.pointer (some ⟨g2, 14, none⟩)) rfl (fun _ => by go_simp) ?_
    simp only [Act.put, List.setIfInBounds_toArray, List.set_cons_zero, List.set_cons_succ]
    refine wl_cell 3 (.tmp 21) (.int .i64 (M.twice : Int)) (own_row 0 rfl) rfl rfl rfl rfl Try.isAgg3 ?_
    simp only [Act.put, List.setIfInBounds_toArray, List.set_cons_zero, List.set_cons_succ]
    refine wl_val (.int .i64 (((M.bad + M.stale) + M.twice : Nat) : Int)) rfl (fun w => run_nat (X := M.bad + M.stale) (Y := M.twice) (Z := (M.bad + M.stale) + M.twice) rfl rfl rfl rfl (by omega) w) ?_
    simp only [Act.put, List.setIfInBounds_toArray, List.set_cons_zero, List.set_cons_succ]
    refine wl_val (.pointer (some ⟨g2, 15, none⟩)) rfl (fun _ => by go_simp) ?_
    simp only [Act.put, List.setIfInBounds_toArray, List.set_cons_zero, List.set_cons_succ]
    refine wl_cell 3 (.tmp 24) (.int .i64 ((n - 32 : Nat) : Int)) (own_row 0 rfl) rfl rfl rfl rfl Try.isAgg3 ?_
    simp only [Act.put, List.setIfInBounds_toArray, List.set_cons_zero, List.set_cons_succ]
    refine wl_val (.int .i64 ((((M.bad + M.stale) + M.twice) + (n - 32) : Nat) : Int)) rfl (fun w => run_nat (X := (M.bad + M.stale) + M.twice) (Y := n - 32) (Z := ((M.bad + M.stale) + M.twice) + (n - 32)) rfl rfl rfl rfl (by omega) w) ?_
    simp only [Act.put, List.setIfInBounds_toArray, List.set_cons_zero, List.set_cons_succ]
    refine wl_val (.int .i64 ((((M.bad + M.stale) + M.twice) + (n - 32) : Nat) : Int)) rfl (fun _ => rfl) ?_
    simp only [Act.put, List.setIfInBounds_toArray, List.set_cons_zero, List.set_cons_succ]
    refine wl_nil ?_
    refine we_then ?_
    refine wc_seq ?_
    refine wc_seq ?_
    refine wc_region ?_
    refine wl_val (.pointer (some ⟨g2, 0, none⟩)) rfl (fun _ => by go_simp) ?_
    simp only [Act.put, List.setIfInBounds_toArray, List.set_cons_zero, List.set_cons_succ]
    refine wl_part 25 (.tmp 27) [.bool (M.has 0), .bool (M.has 1), .bool (M.has 2), .bool (M.has 3), .bool (M.has 4), .bool (M.has 5)] (own_row 0 rfl) rfl rfl rfl rfl Try.underlying25 rfl (by kernel_rfl) ?_
    simp only [Act.put, List.setIfInBounds_toArray, List.set_cons_zero, List.set_cons_succ]
    refine wl_val (.int .i64 0) rfl (fun _ => rfl) ?_
    simp only [Act.put, List.setIfInBounds_toArray, List.set_cons_zero, List.set_cons_succ]
    refine wl_nil ?_
    refine we_then ?_
    refine wc_block ?_
    refine wc_loop (fun (zz : Nat × Nat × Value × Value × Value × Value × Value × Value × Value) => match zz with | ⟨i, q, u8, u30, u31, u32, u33, u34, u35⟩ => ({ tmps := #[.int .i64 cy, .slice p n c, undef, undef, .bool false, .pointer (some ⟨g2, 0, none⟩), .int .i64 (q : Int), undef, u8, .bool true, .bool false, .slice p n c, .bool false, .int .i64 cy, .slice p n c, .agg (mcells M (n - 32)).toArray, .pointer (some ⟨g2, 12, none⟩), .int .i64 (M.bad : Int), .pointer (some ⟨g2, 13, none⟩), .int .i64 (M.stale : Int), .int .i64 ((M.bad + M.stale : Nat) : Int), .pointer (some ⟨g2, 14, none⟩), .int .i64 (M.twice : Int), .int .i64 (((M.bad + M.stale) + M.twice : Nat) : Int), .pointer (some ⟨g2, 15, none⟩), .int .i64 ((n - 32 : Nat) : Int), .int .i64 ((((M.bad + M.stale) + M.twice) + (n - 32) : Nat) : Int), .pointer (some ⟨g2, 0, none⟩), .agg #[.bool (M.has 0), .bool (M.has 1), .bool (M.has 2), .bool (M.has 3), .bool (M.has 4), .bool (M.has 5)], .int .i64 (i : Int), u30, u31, u32, u33, u34, u35, undef, undef, undef, undef, undef, undef, undef, undef, undef, undef, undef, undef, undef, undef, undef, undef, undef, undef, undef, undef, undef, undef, undef, undef], defers := [] } : Act)) (fun (zz : Nat × Nat × Value × Value × Value × Value × Value × Value × Value) => match zz with | ⟨i, q, u8, u30, u31, u32, u33, u34, u35⟩ => [⟨g2, (mcells M (n - 32)).toArray, 28⟩]) (fun (zz : Nat × Nat × Value × Value × Value × Value × Value × Value × Value) => match zz with | ⟨i, q, u8, u30, u31, u32, u33, u34, u35⟩ => i ≤ 6 ∧ q = M.bad + M.stale + M.twice + (n - 32) + cnt M.has i) (fun (zz : Nat × Nat × Value × Value × Value × Value × Value × Value × Value) => match zz with | ⟨i, q, u8, u30, u31, u32, u33, u34, u35⟩ => 6 - i) ⟨0, (M.bad + M.stale + M.twice + (n - 32)), _, _, _, _, _, _, _⟩ ⟨Nat.zero_le _, rfl⟩ rfl (List.Sublist.cons_cons _ List.Sublist.slnil) ?_
    rintro ⟨i, q, u8, u30, u31, u32, u33, u34, u35⟩ hφ
    (try dsimp only at hφ ⊢)
    obtain ⟨b0, b2⟩ := hφ
    have b3 := cnt_le M.has i
    refine wc_seq ?_
    refine wc_region ?_
    refine wl_val (.bool (decide ((i : Int) < 6))) rfl (fun w => run_cmp rfl rfl rfl Try.underlying3 rfl w) ?_
    simp only [Act.put, List.setIfInBounds_toArray, List.set_cons_zero, List.set_cons_succ]
    refine wl_nil ?_
    refine we_then ?_
    refine wc_seq ?_
    cases h3 : (decide ((i : Int) < 6))
    · skip
      have p3 : ¬ ((i : Int) < 6) := of_decide_eq_false h3
      obtain rfl : i = 6 := by omega
      have tt := total_sort (cy % 256) (ls T)
      rw [hM, ls_len, hl] at tt
      unfold total at tt
      refine wc_false rfl ?_
      refine wc_exit ?_
      refine we_then_exit ?_
      refine we_then_exit ?_
      refine we_in_here ?_
      refine we_then ?_
      refine wc_seq ?_
      refine wc_region ?_
      refine wl_val (.int .i64 (q : Int)) rfl (fun _ => rfl) ?_
      simp only [Act.put, List.setIfInBounds_toArray, List.set_cons_zero, List.set_cons_succ]
      refine wl_val (.slice p n c) rfl (fun _ => rfl) ?_
      simp only [Act.put, List.setIfInBounds_toArray, List.set_cons_zero, List.set_cons_succ]
      refine wl_val (.int .i64 (n : Int)) rfl (fun w => er_len rfl rfl Try.underlying22 w) ?_
      simp only [Act.put, List.setIfInBounds_toArray, List.set_cons_zero, List.set_cons_succ]
      refine wl_val (.bool ((q : Int) == (n : Int))) rfl (fun w => run_cmp rfl rfl rfl Try.underlying3 rfl w) ?_
      simp only [Act.put, List.setIfInBounds_toArray, List.set_cons_zero, List.set_cons_succ]
      refine wl_val (.bool ((q : Int) == (n : Int))) rfl (fun _ => rfl) ?_
      simp only [Act.put, List.setIfInBounds_toArray, List.set_cons_zero, List.set_cons_succ]
      cases h4 : ((q : Int) == (n : Int))
      · skip
        have p4 : ¬ ((q : Int) = (n : Int)) := by simpa using h4
        exact (by exfalso; omega)
      · skip
        have p4 : (q : Int) = (n : Int) := by simpa using h4
        refine wl_val (.pointer (some ⟨g2, 12, none⟩)) rfl (fun _ => by go_simp) ?_
        simp only [Act.put, List.setIfInBounds_toArray, List.set_cons_zero, List.set_cons_succ]
        refine wl_cell 3 (.tmp 41) (.int .i64 (M.bad : Int)) (own_row 0 rfl) rfl rfl rfl rfl Try.isAgg3 ?_
        simp only [Act.put, List.setIfInBounds_toArray, List.set_cons_zero, List.set_cons_succ]
        refine wl_val (.bool (decide (0 ≤ (M.bad : Int)))) rfl (fun w => run_cmp rfl rfl rfl Try.underlying3 rfl w) ?_
        simp only [Act.put, List.setIfInBounds_toArray, List.set_cons_zero, List.set_cons_succ]
        refine wl_val (.bool (decide (0 ≤ (M.bad : Int)))) rfl (fun _ => rfl) ?_
        simp only [Act.put, List.setIfInBounds_toArray, List.set_cons_zero, List.set_cons_succ]
        refine wl_val (.bool (decide (0 ≤ (M.bad : Int)))) rfl (fun _ => rfl) ?_
        simp only [Act.put, List.setIfInBounds_toArray, List.set_cons_zero, List.set_cons_succ]
        cases h5 : (decide (0 ≤ (M.bad : Int)))
        · skip
          have p5 : ¬ (0 ≤ (M.bad : Int)) := of_decide_eq_false h5
          exact (by exfalso; omega)
        · skip
          have p5 : 0 ≤ (M.bad : Int) := of_decide_eq_true h5
          refine wl_val (.pointer (some ⟨g2, 13, none⟩)) rfl (fun _ => by go_simp) ?_
          simp only [Act.put, List.setIfInBounds_toArray, List.set_cons_zero, List.set_cons_succ]
          refine wl_cell 3 (.tmp 46) (.int .i64 (M.stale : Int)) (own_row 0 rfl) rfl rfl rfl rfl Try.isAgg3 ?_
          simp only [Act.put, List.setIfInBounds_toArray, List.set_cons_zero, List.set_cons_succ]
          refine wl_val (.bool (decide (0 ≤ (M.stale : Int)))) rfl (fun w => run_cmp rfl rfl rfl Try.underlying3 rfl w) ?_
          simp only [Act.put, List.setIfInBounds_toArray, List.set_cons_zero, List.set_cons_succ]
          refine wl_val (.bool (decide (0 ≤ (M.stale : Int)))) rfl (fun _ => rfl) ?_
          simp only [Act.put, List.setIfInBounds_toArray, List.set_cons_zero, List.set_cons_succ]
          refine wl_val (.bool (decide (0 ≤ (M.stale : Int)))) rfl (fun _ => rfl) ?_
          simp only [Act.put, List.setIfInBounds_toArray, List.set_cons_zero, List.set_cons_succ]
          cases h6 : (decide (0 ≤ (M.stale : Int)))
          · skip
            have p6 : ¬ (0 ≤ (M.stale : Int)) := of_decide_eq_false h6
            exact (by exfalso; omega)
          · skip
            have p6 : 0 ≤ (M.stale : Int) := of_decide_eq_true h6
            refine wl_val (.pointer (some ⟨g2, 14, none⟩)) rfl (fun _ => by go_simp) ?_
            simp only [Act.put, List.setIfInBounds_toArray, List.set_cons_zero, List.set_cons_succ]
            refine wl_cell 3 (.tmp 51) (.int .i64 (M.twice : Int)) (own_row 0 rfl) rfl rfl rfl rfl Try.isAgg3 ?_
            simp only [Act.put, List.setIfInBounds_toArray, List.set_cons_zero, List.set_cons_succ]
            refine wl_val (.bool (decide (0 ≤ (M.twice : Int)))) rfl (fun w => run_cmp rfl rfl rfl Try.underlying3 rfl w) ?_
            simp only [Act.put, List.setIfInBounds_toArray, List.set_cons_zero, List.set_cons_succ]
            refine wl_val (.bool (decide (0 ≤ (M.twice : Int)))) rfl (fun _ => rfl) ?_
            simp only [Act.put, List.setIfInBounds_toArray, List.set_cons_zero, List.set_cons_succ]
            refine wl_val (.bool (decide (0 ≤ (M.twice : Int)))) rfl (fun _ => rfl) ?_
            simp only [Act.put, List.setIfInBounds_toArray, List.set_cons_zero, List.set_cons_succ]
            cases h7 : (decide (0 ≤ (M.twice : Int)))
            · skip
              have p7 : ¬ (0 ≤ (M.twice : Int)) := of_decide_eq_false h7
              exact (by exfalso; omega)
            · skip
              have p7 : 0 ≤ (M.twice : Int) := of_decide_eq_true h7
              refine wl_val (.pointer (some ⟨g2, 15, none⟩)) rfl (fun _ => by go_simp) ?_
              simp only [Act.put, List.setIfInBounds_toArray, List.set_cons_zero, List.set_cons_succ]
              refine wl_cell 3 (.tmp 56) (.int .i64 ((n - 32 : Nat) : Int)) (own_row 0 rfl) rfl rfl rfl rfl Try.isAgg3 ?_
              simp only [Act.put, List.setIfInBounds_toArray, List.set_cons_zero, List.set_cons_succ]
              refine wl_val (.bool (decide (0 ≤ ((n - 32 : Nat) : Int)))) rfl (fun w => run_cmp rfl rfl rfl Try.underlying3 rfl w) ?_
              simp only [Act.put, List.setIfInBounds_toArray, List.set_cons_zero, List.set_cons_succ]
              refine wl_val (.bool (decide (0 ≤ ((n - 32 : Nat) : Int)))) rfl (fun _ => rfl) ?_
              simp only [Act.put, List.setIfInBounds_toArray, List.set_cons_zero, List.set_cons_succ]
              refine wl_val (.bool (decide (0 ≤ ((n - 32 : Nat) : Int)))) rfl (fun _ => rfl) ?_
              simp only [Act.put, List.setIfInBounds_toArray, List.set_cons_zero, List.set_cons_succ]
              refine wl_nil ?_
              refine we_then ?_
              refine wc_ret ?_
              refine we_ret1 (.bool (decide (0 ≤ ((n - 32 : Nat) : Int)))) rfl rfl rfl (fun w1 hE => ?_)
              exact ⟨by rw [show (decide (0 ≤ ((n - 32 : Nat) : Int))) = true from decide_eq_true (by omega)], hE.below⟩
    · skip
      have p3 : (i : Int) < 6 := of_decide_eq_true h3
      have b1 : i < 6 := by omega
      refine wc_true rfl ?_
      refine wc_skip ?_
      refine we_then ?_
      refine wc_seq ?_
      refine wc_block ?_
      refine wc_seq ?_
      refine wc_region ?_
      refine wl_val (.bool (M.has i)) rfl (fun w => run_index (k := i) rfl rfl rfl rfl b1 (by omega) Try.underlying25 Try.isAgg4 (by kernel_rfl) (mhas_at M b1) w) ?_
      simp only [Act.put, List.setIfInBounds_toArray, List.set_cons_zero, List.set_cons_succ]
      refine wl_val (.bool (M.has i)) rfl (fun _ => rfl) ?_
      simp only [Act.put, List.setIfInBounds_toArray, List.set_cons_zero, List.set_cons_succ]
      refine wl_nil ?_
      refine we_then ?_
      refine wc_seq ?_
      refine wc_region ?_
      refine wl_val (.bool (M.has i)) rfl (fun _ => rfl) ?_
      simp only [Act.put, List.setIfInBounds_toArray, List.set_cons_zero, List.set_cons_succ]
      refine wl_nil ?_
      refine we_then ?_
      cases h8 : ((M.has i))
      · skip
        refine wc_false rfl ?_
        refine wc_skip ?_
        refine we_in ?_
        refine we_then ?_
        refine wc_region ?_
        refine wl_val (.int .i64 ((i + 1 : Nat) : Int)) rfl (fun w => run_nat (X := i) (Y := 1) (Z := i + 1) rfl rfl rfl rfl (by omega) w) ?_
        simp only [Act.put, List.setIfInBounds_toArray, List.set_cons_zero, List.set_cons_succ]
        refine wl_val (.int .i64 ((i + 1 : Nat) : Int)) rfl (fun _ => rfl) ?_
        simp only [Act.put, List.setIfInBounds_toArray, List.set_cons_zero, List.set_cons_succ]
        refine wl_nil ?_
        exact we_meet ⟨(i + 1), q, _, _, _, _, _, _, _⟩ ⟨⟨by (try dsimp only); omega, cnt_no b2 h8⟩, by (try dsimp only); omega⟩ rfl (List.Sublist.cons_cons _ List.Sublist.slnil)
      · skip
        refine wc_true rfl ?_
        refine wc_region ?_
        refine wl_val (.int .i64 (q : Int)) rfl (fun _ => rfl) ?_
        simp only [Act.put, List.setIfInBounds_toArray, List.set_cons_zero, List.set_cons_succ]
        refine wl_val (.int .i64 ((q + 1 : Nat) : Int)) rfl (fun w => run_nat (X := q) (Y := 1) (Z := q + 1) rfl rfl rfl rfl (by omega) w) ?_
        simp only [Act.put, List.setIfInBounds_toArray, List.set_cons_zero, List.set_cons_succ]
        refine wl_val (.int .i64 ((q + 1 : Nat) : Int)) rfl (fun _ => rfl) ?_
        simp only [Act.put, List.setIfInBounds_toArray, List.set_cons_zero, List.set_cons_succ]
        refine wl_nil ?_
        refine we_in ?_
        refine we_then ?_
        refine wc_region ?_
        refine wl_val (.int .i64 ((i + 1 : Nat) : Int)) rfl (fun w => run_nat (X := i) (Y := 1) (Z := i + 1) rfl rfl rfl rfl (by omega) w) ?_
        simp only [Act.put, List.setIfInBounds_toArray, List.set_cons_zero, List.set_cons_succ]
        refine wl_val (.int .i64 ((i + 1 : Nat) : Int)) rfl (fun _ => rfl) ?_
        simp only [Act.put, List.setIfInBounds_toArray, List.set_cons_zero, List.set_cons_succ]
        refine wl_nil ?_
        exact we_meet ⟨(i + 1), (q + 1), _, _, _, _, _, _, _⟩ ⟨⟨by (try dsimp only); omega, cnt_yes b2 h8⟩, by (try dsimp only); omega⟩ rfl (List.Sublist.cons_cons _ List.Sublist.slnil)
  · skip
    refine wc_true rfl ?_
    refine wc_seq ?_
    refine wc_region ?_
    refine wl_val (.bool true) rfl (fun _ => rfl) ?_
    simp only [Act.put, List.setIfInBounds_toArray, List.set_cons_zero, List.set_cons_succ]
    refine wl_nil ?_
    refine we_then ?_
    refine wc_ret ?_
    refine we_then_ret ?_
    refine we_ret1 (.bool true) rfl rfl rfl (fun w1 hE => ?_)
    exact ⟨rfl, hE.below⟩
end Go.Proofs.Ytggdmchhnnjfiaa.Walks
