/-
  CrcSums: the law's walk. No condition.
-/
import Derived.Test.YtbeplgamellahaaCref
namespace Go.Proofs.Ytbeplgamellahaa.Walks
open Go.ChangeShapes Go.WideShapes Go.ChangeAt Go.RowKit
open Arr Steady Sx Sw Sl Sb Cr Crc Cref
set_option linter.unusedVariables false
set_option linter.unusedSimpArgs false
set_option maxRecDepth 100000

theorem reads_both {w : World} {p : Option Addr} {A B : List UInt8} (h : Reads w p ((#[] : Array Value).toList ++ flat ub A ++ flat ub B)) : Reads w p (flat ub (A ++ B)) := by
  rw [flat_append]
  exact h
set_option maxHeartbeats 2000000 in
theorem crcSums_walk (A : List UInt8) (p : Option Addr) (c : Nat) (B : List UInt8) (q : Option Addr) (d : Nat) (w : World) (hA : Reads w p (flat ub A)) (hcA : A.length ≤ c) (hmA : c ≤ maxLen) (hB : Reads w q (flat ub B)) (hcB : B.length ≤ d) (hmB : d ≤ maxLen) :
    Calls Try.prog 3 #[.slice p A.length c, .slice q B.length d] w fun e w' => e = .returned (.bool true) ∧ Below w.heap.size w w' := by
  refine calls_sx Try.func3 rfl ?_
  simp only [Try.ntmps3, List.size_toArray, List.length_cons, List.length_nil, Nat.reduceAdd, Nat.reduceSub, Array.replicate_succ, Array.replicate_zero, List.push_toArray, List.append_toArray, List.nil_append, List.cons_append]
  refine wc_seq ?_
  refine wc_region ?_
  refine wl_val (.bool false) rfl (fun _ => rfl) ?_
  simp only [Act.put, List.setIfInBounds_toArray, List.set_cons_zero, List.set_cons_succ]
  refine wl_nil ?_
  refine we_then ?_
  refine wc_seq ?_
  refine wc_seq ?_
  refine wc_region ?_
  refine wl_call 6 #[] (.bool true) rfl (fun _ => by go_simp) (fun W => anchor_any W) ?_
  simp only [Act.put, List.setIfInBounds_toArray, List.set_cons_zero, List.set_cons_succ]
  refine wl_val (.bool false) rfl (fun _ => by go_simp) ?_
  simp only [Act.put, List.setIfInBounds_toArray, List.set_cons_zero, List.set_cons_succ]
  refine wl_nil ?_
  refine we_then ?_
  refine wc_false rfl ?_
  refine wc_skip ?_
  refine we_then ?_
  refine wc_seq ?_
  refine wc_seq ?_
  refine wc_region ?_
  refine wl_val (.slice p A.length c) rfl (fun _ => rfl) ?_
  simp only [Act.put, List.setIfInBounds_toArray, List.set_cons_zero, List.set_cons_succ]
  refine wl_val (.int .i64 (A.length : Int)) rfl (fun w => er_len rfl rfl Try.underlying22 w) ?_
  simp only [Act.put, List.setIfInBounds_toArray, List.set_cons_zero, List.set_cons_succ]
  refine wl_val (.bool (decide (2000 < (A.length : Int)))) rfl (fun w => run_cmp rfl rfl rfl Try.underlying3 rfl w) ?_
  simp only [Act.put, List.setIfInBounds_toArray, List.set_cons_zero, List.set_cons_succ]
  refine wl_val (.bool (decide (2000 < (A.length : Int)))) rfl (fun _ => rfl) ?_
  simp only [Act.put, List.setIfInBounds_toArray, List.set_cons_zero, List.set_cons_succ]
  cases h1 : (decide (2000 < (A.length : Int)))
  · skip
    have p1 : ¬ (2000 < (A.length : Int)) := of_decide_eq_false h1
    refine wl_val (.slice q B.length d) rfl (fun _ => rfl) ?_
    simp only [Act.put, List.setIfInBounds_toArray, List.set_cons_zero, List.set_cons_succ]
    refine wl_val (.int .i64 (B.length : Int)) rfl (fun w => er_len rfl rfl Try.underlying22 w) ?_
    simp only [Act.put, List.setIfInBounds_toArray, List.set_cons_zero, List.set_cons_succ]
    refine wl_val (.bool (decide (2000 < (B.length : Int)))) rfl (fun w => run_cmp rfl rfl rfl Try.underlying3 rfl w) ?_
    simp only [Act.put, List.setIfInBounds_toArray, List.set_cons_zero, List.set_cons_succ]
    refine wl_val (.bool (decide (2000 < (B.length : Int)))) rfl (fun _ => rfl) ?_
    simp only [Act.put, List.setIfInBounds_toArray, List.set_cons_zero, List.set_cons_succ]
    refine wl_nil ?_
    refine we_then ?_
    cases h2 : (decide (2000 < (B.length : Int)))
    · skip
      have p2 : ¬ (2000 < (B.length : Int)) := of_decide_eq_false h2
      refine wc_false rfl ?_
      refine wc_skip ?_
      refine we_then ?_
      refine wc_seq ?_
      refine wc_region ?_
      refine wl_lit (e := 5) #[] 0 rfl (fun _ => by go_simp) ?_
      intro g3
      simp only [Act.put, List.setIfInBounds_toArray, List.set_cons_zero, List.set_cons_succ]
      refine wl_val (.slice p A.length c) rfl (fun _ => rfl) ?_
      simp only [Act.put, List.setIfInBounds_toArray, List.set_cons_zero, List.set_cons_succ]
      refine wl_append (e := 5) (size := 1) (bytes := 1) [] [] (Own.row g3 0 #[]) (ys := flat ub A) rfl (Own.has_lit g3 0 1 #[] (Nat.zero_le _) rfl) (sl_old hA) (ub_len1 rfl) (flat_one ub_one _) rfl rfl rfl rfl Try.underlying22 (by unfold Elem; kernel_rfl) (by decide) (by unfold maxLen; omega) (by omega) ?_
      intro s4 hs4
      simp only [List.nil_append, Act.put, List.setIfInBounds_toArray, List.set_cons_zero, List.set_cons_succ]
      refine wl_val (.slice q B.length d) rfl (fun _ => rfl) ?_
      simp only [Act.put, List.setIfInBounds_toArray, List.set_cons_zero, List.set_cons_succ]
      refine wl_append (e := 5) (size := 1) (bytes := 1) [] [] s4 (ys := flat ub B) rfl hs4 (sl_old hB) (ub_len1 rfl) (flat_one ub_one _) rfl rfl rfl rfl Try.underlying22 (by unfold Elem; kernel_rfl) (by decide) (by unfold maxLen; omega) (by omega) ?_
      intro s5 hs5
      simp only [List.nil_append, Act.put, List.setIfInBounds_toArray, List.set_cons_zero, List.set_cons_succ]
      refine wl_val (.slice s5.ptr (0 + A.length + B.length) s5.cap) rfl (fun _ => rfl) ?_
      simp only [Act.put, List.setIfInBounds_toArray, List.set_cons_zero, List.set_cons_succ]
      refine wl_nil ?_
      refine we_then ?_
      refine wc_seq ?_
      refine wc_region ?_
      refine wl_val (.slice s5.ptr (0 + A.length + B.length) s5.cap) rfl (fun _ => rfl) ?_
      simp only [Act.put, List.setIfInBounds_toArray, List.set_cons_zero, List.set_cons_succ]
      refine wl_call_at 7 #[.slice s5.ptr (0 + A.length + B.length) s5.cap] (.int .u16 ((crc 65535#16 (A ++ B)).toNat : Int)) rfl (fun _ => by go_simp) (fun W hE => sum_at (A ++ B) _ _ _ W (by rw [List.length_append]; omega) (reads_both ((sl_own [] [] hs5 rfl) W hE)) (by rw [List.length_append]; omega)) ?_
      simp only [Act.put, List.setIfInBounds_toArray, List.set_cons_zero, List.set_cons_succ]
      have q6 : (crc 65535#16 (A ++ B)).toNat < 65536 := (crc 65535#16 (A ++ B)).isLt
      refine wl_val (.int .i64 (((crc 65535#16 (A ++ B)).toNat : Nat) : Int)) rfl (fun w => run_conv (X := ((crc 65535#16 (A ++ B)).toNat : Int)) rfl rfl Try.underlying24 Try.underlying3 (i64_in (by omega) (by omega)) w) ?_
      simp only [Act.put, List.setIfInBounds_toArray, List.set_cons_zero, List.set_cons_succ]
      refine wl_val (.slice s5.ptr (0 + A.length + B.length) s5.cap) rfl (fun _ => rfl) ?_
      simp only [Act.put, List.setIfInBounds_toArray, List.set_cons_zero, List.set_cons_succ]
      refine wl_call_at 8 #[.slice s5.ptr (0 + A.length + B.length) s5.cap] (.int .i64 (((crc 65535#16 (A ++ B)).toNat : Nat) : Int)) rfl (fun _ => by go_simp) (fun W hE => ref_at (A ++ B) _ _ _ W (by rw [List.length_append]; omega) (reads_both ((sl_own [] [] hs5 rfl) W hE)) (by rw [List.length_append]; omega)) ?_
      simp only [Act.put, List.setIfInBounds_toArray, List.set_cons_zero, List.set_cons_succ]
      refine wl_val (.bool true) rfl (fun w => run_cmp (b := true) rfl rfl rfl Try.underlying3 (by simp [cmpOf]) w) ?_
      simp only [Act.put, List.setIfInBounds_toArray, List.set_cons_zero, List.set_cons_succ]
      refine wl_val (.bool true) rfl (fun _ => rfl) ?_
      simp only [Act.put, List.setIfInBounds_toArray, List.set_cons_zero, List.set_cons_succ]
      refine wl_val (.slice p A.length c) rfl (fun _ => rfl) ?_
      simp only [Act.put, List.setIfInBounds_toArray, List.set_cons_zero, List.set_cons_succ]
      refine wl_call_at 7 #[.slice p A.length c] (.int .u16 ((crc 65535#16 A).toNat : Int)) rfl (fun _ => by go_simp) (fun W hE => sum_at A _ _ _ W rfl ((sl_old hA) W hE) (by omega)) ?_
      simp only [Act.put, List.setIfInBounds_toArray, List.set_cons_zero, List.set_cons_succ]
      refine wl_val (.slice q B.length d) rfl (fun _ => rfl) ?_
      simp only [Act.put, List.setIfInBounds_toArray, List.set_cons_zero, List.set_cons_succ]
      refine wl_call_at 9 #[.int .u16 ((crc 65535#16 A).toNat : Int), .slice q B.length d] (.int .u16 ((crc (crc 65535#16 A) B).toNat : Int)) rfl (fun _ => by go_simp) (fun W hE => go_at (crc 65535#16 A) B _ _ _ W rfl ((sl_old hB) W hE) (by omega)) ?_
      simp only [Act.put, List.setIfInBounds_toArray, List.set_cons_zero, List.set_cons_succ]
      refine wl_val (.slice s5.ptr (0 + A.length + B.length) s5.cap) rfl (fun _ => rfl) ?_
      simp only [Act.put, List.setIfInBounds_toArray, List.set_cons_zero, List.set_cons_succ]
      refine wl_call_at 7 #[.slice s5.ptr (0 + A.length + B.length) s5.cap] (.int .u16 ((crc 65535#16 (A ++ B)).toNat : Int)) rfl (fun _ => by go_simp) (fun W hE => sum_at (A ++ B) _ _ _ W (by rw [List.length_append]; omega) (reads_both ((sl_own [] [] hs5 rfl) W hE)) (by rw [List.length_append]; omega)) ?_
      simp only [Act.put, List.setIfInBounds_toArray, List.set_cons_zero, List.set_cons_succ]
      refine wl_val (.bool true) rfl (fun w => run_bveq (b := true) (k := .u16) (X := crc (crc 65535#16 A) B) (Y := crc 65535#16 (A ++ B)) rfl rfl rfl Try.underlying24 (bv_same (n := 16) (crc_append _ _ _).symm) w) ?_
      simp only [Act.put, List.setIfInBounds_toArray, List.set_cons_zero, List.set_cons_succ]
      refine wl_val (.bool true) rfl (fun _ => rfl) ?_
      simp only [Act.put, List.setIfInBounds_toArray, List.set_cons_zero, List.set_cons_succ]
      refine wl_val (.bool true) rfl (fun _ => rfl) ?_
      simp only [Act.put, List.setIfInBounds_toArray, List.set_cons_zero, List.set_cons_succ]
      refine wl_nil ?_
      refine we_then ?_
      refine wc_ret ?_
      refine we_ret1 (.bool true) rfl rfl rfl (fun w1 hE => ?_)
      exact ⟨rfl, hE.below⟩
    · skip
      have p2 : 2000 < (B.length : Int) := of_decide_eq_true h2
      refine wc_true rfl ?_
      refine wc_seq ?_
      refine wc_region ?_
      refine wl_val (.bool true) rfl (fun _ => rfl) ?_
      simp only [Act.put, List.setIfInBounds_toArray, List.set_cons_zero, List.set_cons_succ]
      refine wl_nil ?_
      refine we_then ?_
      refine wc_ret ?_
      refine we_then_ret ?_
      refine we_ret1 (.bool true) rfl rfl rfl (fun w1 hE => ?_)
      exact ⟨rfl, hE.below⟩
  · skip
    have p1 : 2000 < (A.length : Int) := of_decide_eq_true h1
    refine wl_skip rfl ?_
    simp only [Act.put, List.setIfInBounds_toArray, List.set_cons_zero, List.set_cons_succ]
    refine wl_skip rfl ?_
    simp only [Act.put, List.setIfInBounds_toArray, List.set_cons_zero, List.set_cons_succ]
    refine wl_skip rfl ?_
    simp only [Act.put, List.setIfInBounds_toArray, List.set_cons_zero, List.set_cons_succ]
    refine wl_val (.bool true) rfl (fun _ => rfl) ?_
    simp only [Act.put, List.setIfInBounds_toArray, List.set_cons_zero, List.set_cons_succ]
    refine wl_nil ?_
    refine we_then ?_
    refine wc_true rfl ?_
    refine wc_seq ?_
    refine wc_region ?_
    refine wl_val (.bool true) rfl (fun _ => rfl) ?_
    simp only [Act.put, List.setIfInBounds_toArray, List.set_cons_zero, List.set_cons_succ]
    refine wl_nil ?_
    refine we_then ?_
    refine wc_ret ?_
    refine we_then_ret ?_
    refine we_ret1 (.bool true) rfl rfl rfl (fun w1 hE => ?_)
    exact ⟨rfl, hE.below⟩
end Go.Proofs.Ytbeplgamellahaa.Walks
