/-
  FrameTurned: the law's walk. No condition.
-/
import Derived.Test.YtcefkfpnbgkcdaaFlaw
namespace Go.Proofs.Ytcefkfpnbgkcdaa.Walks
open Go.ChangeShapes Go.WideShapes Go.ChangeAt Go.RowKit
open Arr Steady Sx Sw Sl Sb Sc Cr Crc Cref Fr Fref Frm Flaw
set_option linter.unusedVariables false
set_option linter.unusedSimpArgs false
set_option maxRecDepth 100000

theorem turned_ne (x : UInt8) (i : Nat) (h : i < 8) : UInt8.ofBitVec (x.toBitVec ^^^ (1#8 <<< i)) ≠ x := by
  intro e
  have e1 : x.toBitVec ^^^ (1#8 <<< i) = x.toBitVec := congrArg UInt8.toBitVec e
  have e2 : 1#8 <<< i = 0#8 := by
    have e3 : x.toBitVec ^^^ (x.toBitVec ^^^ (1#8 <<< i)) = x.toBitVec ^^^ x.toBitVec := by rw [e1]
    rwa [← BitVec.xor_assoc, BitVec.xor_self, BitVec.zero_xor] at e3
  have : ∀ j : Fin 8, 1#8 <<< j.val ≠ 0#8 := by decide
  exact this ⟨i, h⟩ e2
set_option maxHeartbeats 2000000 in
theorem frameTurned_walk (k : Int) (wk : (Lit.int .i64 k).wf = true) (s : Int) (ws : (Lit.int .i64 s).wf = true) (v : Int) (wv : (Lit.int .i64 v).wf = true) (a : Int) (wa : (Lit.int .i64 a).wf = true) (M : List UInt8) (p : Option Addr) (c : Nat) (w : World) (hM : Reads w p (flat ub M)) (hc : M.length ≤ c) (hm : c ≤ maxLen) :
    Calls Try.prog 5 #[.agg #[.int .i64 k, .int .i64 s, .int .i64 v], .int .i64 a, .slice p M.length c] w fun e w' => e = .returned (.bool true) ∧ Below w.heap.size w w' := by
  have hk := i64_of_wf wk
  have pl := putL_bounds k s v
  refine calls_sx Try.func5 rfl ?_
  simp only [Try.ntmps5, List.size_toArray, List.length_cons, List.length_nil, Nat.reduceAdd, Nat.reduceSub, Array.replicate_succ, Array.replicate_zero, List.push_toArray, List.append_toArray, List.nil_append, List.cons_append]
  refine wc_seq ?_
  refine wc_region ?_
  refine wl_new 23 (#[.int .i64 k, .int .i64 s, .int .i64 v]) rfl (fun _ => by go_simp) ?_
  intro g1
  simp only [Act.put, List.setIfInBounds_toArray, List.set_cons_zero, List.set_cons_succ]
  refine wl_val (.bool false) rfl (fun _ => rfl) ?_
  simp only [Act.put, List.setIfInBounds_toArray, List.set_cons_zero, List.set_cons_succ]
  refine wl_nil ?_
  refine we_then ?_
  refine wc_seq ?_
  refine wc_seq ?_
  refine wc_region ?_
  refine wl_call 7 #[] (.bool true) rfl (fun _ => by go_simp) (fun W => anchor_any W) ?_
  simp only [Act.put, List.setIfInBounds_toArray, List.set_cons_zero, List.set_cons_succ]
  refine wl_val (.bool false) rfl (fun _ => by go_simp) ?_
  simp only [Act.put, List.setIfInBounds_toArray, List.set_cons_zero, List.set_cons_succ]
  refine wl_nil ?_
  refine we_then ?_
  refine wc_false rfl ?_
  refine wc_skip ?_
  refine we_then ?_
  refine wc_seq ?_
  refine wc_seq ?_
  refine wc_region ?_
  refine wl_val (.slice p M.length c) rfl (fun _ => rfl) ?_
  simp only [Act.put, List.setIfInBounds_toArray, List.set_cons_zero, List.set_cons_succ]
  refine wl_val (.int .i64 (M.length : Int)) rfl (fun w => er_len rfl rfl Try.underlying25 w) ?_
  simp only [Act.put, List.setIfInBounds_toArray, List.set_cons_zero, List.set_cons_succ]
  refine wl_val (.bool (decide (100 < (M.length : Int)))) rfl (fun w => run_cmp rfl rfl rfl Try.underlying3 rfl w) ?_
  simp only [Act.put, List.setIfInBounds_toArray, List.set_cons_zero, List.set_cons_succ]
  refine wl_nil ?_
  refine we_then ?_
  cases h2 : (decide (100 < (M.length : Int)))
  · skip
    have p2 : ¬ (100 < (M.length : Int)) := of_decide_eq_false h2
    refine wc_false rfl ?_
    refine wc_skip ?_
    refine we_then ?_
    refine wc_seq ?_
    refine wc_region ?_
    refine wl_load 23 (.tmp 3) (own_row 0 rfl) rfl rfl rfl Try.underlying23 rfl (by kernel_rfl) ?_
    simp only [Act.put, List.setIfInBounds_toArray, List.set_cons_zero, List.set_cons_succ]
    cases h3 : (putE k s v == 0)
    · skip
      have p3 : ¬ (putE k s v = 0) := by simpa using h3
      refine wl_call 8 #[.agg #[.int .i64 k, .int .i64 s, .int .i64 v]] (.tuple #[.slice none 0 0, .int .i64 ((putE k s v : Nat) : Int)]) rfl (fun _ => by go_simp) (fun W => put_no hk (by omega) W) ?_
      simp only [Act.put, List.setIfInBounds_toArray, List.set_cons_zero, List.set_cons_succ]
      refine wl_val (.tuple #[.slice none 0 0, .int .i64 ((putE k s v : Nat) : Int)]) rfl (fun _ => rfl) ?_
      simp only [Act.put, List.setIfInBounds_toArray, List.set_cons_zero, List.set_cons_succ]
      refine wl_val (.slice none 0 0) rfl (fun _ => by go_simp) ?_
      simp only [Act.put, List.setIfInBounds_toArray, List.set_cons_zero, List.set_cons_succ]
      refine wl_val (.int .i64 ((putE k s v : Nat) : Int)) rfl (fun _ => by go_simp) ?_
      simp only [Act.put, List.setIfInBounds_toArray, List.set_cons_zero, List.set_cons_succ]
      refine wl_val (.slice none 0 0) rfl (fun _ => rfl) ?_
      simp only [Act.put, List.setIfInBounds_toArray, List.set_cons_zero, List.set_cons_succ]
      refine wl_val (.int .i64 ((putE k s v : Nat) : Int)) rfl (fun _ => rfl) ?_
      simp only [Act.put, List.setIfInBounds_toArray, List.set_cons_zero, List.set_cons_succ]
      refine wl_nil ?_
      refine we_then ?_
      refine wc_seq ?_
      refine wc_seq ?_
      refine wc_region ?_
      refine wl_val (.int .i64 ((putE k s v : Nat) : Int)) rfl (fun _ => rfl) ?_
      simp only [Act.put, List.setIfInBounds_toArray, List.set_cons_zero, List.set_cons_succ]
      refine wl_val (.bool (((putE k s v : Nat) : Int) != 0)) rfl (fun w => run_cmp rfl rfl rfl Try.underlying26 rfl w) ?_
      simp only [Act.put, List.setIfInBounds_toArray, List.set_cons_zero, List.set_cons_succ]
      refine wl_val (.bool (((putE k s v : Nat) : Int) != 0)) rfl (fun _ => rfl) ?_
      simp only [Act.put, List.setIfInBounds_toArray, List.set_cons_zero, List.set_cons_succ]
      cases h4 : (((putE k s v : Nat) : Int) != 0)
      · skip
        have p4 : ¬ (((putE k s v : Nat) : Int) ≠ 0) := by simpa using h4
        exact (by exfalso; omega)
      · skip
        have p4 : ((putE k s v : Nat) : Int) ≠ 0 := by simpa using h4
        refine wl_skip rfl ?_
        simp only [Act.put, List.setIfInBounds_toArray, List.set_cons_zero, List.set_cons_succ]
        refine wl_skip rfl ?_
        simp only [Act.put, List.setIfInBounds_toArray, List.set_cons_zero, List.set_cons_succ]
        refine wl_skip rfl ?_
        simp only [Act.put, List.setIfInBounds_toArray, List.set_cons_zero, List.set_cons_succ]
        refine wl_val (.bool true) rfl (fun _ => rfl) ?_
        simp only [Act.put, List.setIfInBounds_toArray, List.set_cons_zero, List.set_cons_succ]
        refine wl_nil ?_
        refine we_then ?_
        refine wc_true rfl ?_
        refine wc_seq ?_
        refine wc_region ?_
        refine wl_val (.int .i64 ((putE k s v : Nat) : Int)) rfl (fun _ => rfl) ?_
        simp only [Act.put, List.setIfInBounds_toArray, List.set_cons_zero, List.set_cons_succ]
        refine wl_val (.bool true) rfl (fun w => run_cmp (b := true) rfl rfl rfl Try.underlying26 (by exact congrArg some h4) w) ?_
        simp only [Act.put, List.setIfInBounds_toArray, List.set_cons_zero, List.set_cons_succ]
        refine wl_val (.bool true) rfl (fun _ => rfl) ?_
        simp only [Act.put, List.setIfInBounds_toArray, List.set_cons_zero, List.set_cons_succ]
        refine wl_nil ?_
        refine we_then ?_
        refine wc_ret ?_
        refine we_then_ret ?_
        refine we_ret1 (.bool true) rfl rfl rfl (fun w1 hE => ?_)
        exact ⟨rfl, hE.below⟩
    · skip
      have p3 : putE k s v = 0 := by simpa using h3
      have gm := getE_more (M := M) (get_put (k := k) (s := s) (v := v) (by omega)).1
      refine wl_call_env (ι := Nat) 8 #[.agg #[.int .i64 k, .int .i64 s, .int .i64 v]] (fun g5 => .tuple #[.slice (some ⟨g5, 0, none⟩) ((putL k s v).length) ((putL k s v).length), .int .i64 0]) (fun g5 => [⟨g5, (flat ub (putL k s v)).toArray, 5⟩]) (fun _ => True) rfl (fun _ => by go_simp) (fun W hE => put_yes (by omega) rfl W) ?_
      rintro g5 -
      simp only [List.cons_append, List.nil_append, Act.put, List.setIfInBounds_toArray, List.set_cons_zero, List.set_cons_succ]
      refine wl_val (.tuple #[.slice (some ⟨g5, 0, none⟩) ((putL k s v).length) ((putL k s v).length), .int .i64 0]) rfl (fun _ => rfl) ?_
      simp only [Act.put, List.setIfInBounds_toArray, List.set_cons_zero, List.set_cons_succ]
      refine wl_val (.slice (some ⟨g5, 0, none⟩) ((putL k s v).length) ((putL k s v).length)) rfl (fun _ => by go_simp) ?_
      simp only [Act.put, List.setIfInBounds_toArray, List.set_cons_zero, List.set_cons_succ]
      refine wl_val (.int .i64 0) rfl (fun _ => by go_simp) ?_
      simp only [Act.put, List.setIfInBounds_toArray, List.set_cons_zero, List.set_cons_succ]
      refine wl_val (.slice (some ⟨g5, 0, none⟩) ((putL k s v).length) ((putL k s v).length)) rfl (fun _ => rfl) ?_
      simp only [Act.put, List.setIfInBounds_toArray, List.set_cons_zero, List.set_cons_succ]
      refine wl_val (.int .i64 0) rfl (fun _ => rfl) ?_
      simp only [Act.put, List.setIfInBounds_toArray, List.set_cons_zero, List.set_cons_succ]
      refine wl_nil ?_
      refine we_then ?_
      refine wc_seq ?_
      refine wc_seq ?_
      refine wc_region ?_
      refine wl_val (.int .i64 0) rfl (fun _ => rfl) ?_
      simp only [Act.put, List.setIfInBounds_toArray, List.set_cons_zero, List.set_cons_succ]
      refine wl_val (.bool false) rfl (fun w => run_cmp rfl rfl rfl Try.underlying26 rfl w) ?_
      simp only [Act.put, List.setIfInBounds_toArray, List.set_cons_zero, List.set_cons_succ]
      refine wl_val (.bool false) rfl (fun _ => rfl) ?_
      simp only [Act.put, List.setIfInBounds_toArray, List.set_cons_zero, List.set_cons_succ]
      refine wl_val (.slice (some ⟨g5, 0, none⟩) ((putL k s v).length) ((putL k s v).length)) rfl (fun _ => rfl) ?_
      simp only [Act.put, List.setIfInBounds_toArray, List.set_cons_zero, List.set_cons_succ]
      refine wl_val (.int .i64 (((putL k s v).length : Nat) : Int)) rfl (fun w => er_len rfl rfl Try.underlying25 w) ?_
      simp only [Act.put, List.setIfInBounds_toArray, List.set_cons_zero, List.set_cons_succ]
      refine wl_val (.bool (decide ((((putL k s v).length : Nat) : Int) < 5))) rfl (fun w => run_cmp rfl rfl rfl Try.underlying3 rfl w) ?_
      simp only [Act.put, List.setIfInBounds_toArray, List.set_cons_zero, List.set_cons_succ]
      refine wl_val (.bool (decide ((((putL k s v).length : Nat) : Int) < 5))) rfl (fun _ => rfl) ?_
      simp only [Act.put, List.setIfInBounds_toArray, List.set_cons_zero, List.set_cons_succ]
      refine wl_nil ?_
      refine we_then ?_
      cases h6 : (decide ((((putL k s v).length : Nat) : Int) < 5))
      · skip
        have p6 : ¬ ((((putL k s v).length : Nat) : Int) < 5) := of_decide_eq_false h6
        refine wc_false rfl ?_
        refine wc_skip ?_
        refine we_then ?_
        refine wc_seq ?_
        refine wc_region ?_
        refine wl_lit (e := 5) #[] 0 rfl (fun _ => by go_simp) ?_
        intro g7
        simp only [Act.put, List.setIfInBounds_toArray, List.set_cons_zero, List.set_cons_succ]
        refine wl_val (.slice (some ⟨g5, 0, none⟩) ((putL k s v).length) ((putL k s v).length)) rfl (fun _ => rfl) ?_
        simp only [Act.put, List.setIfInBounds_toArray, List.set_cons_zero, List.set_cons_succ]
        refine wl_perm (perm_last [] ⟨g7, #[], 5⟩ [⟨g5, (flat ub (putL k s v)).toArray, 5⟩, ⟨g1, #[.int .i64 k, .int .i64 s, .int .i64 v], 23⟩] []) ?_
        refine wl_append (e := 5) (size := 1) (bytes := 1) (m := (putL k s v).length) [⟨g5, (flat ub (putL k s v)).toArray, 5⟩, ⟨g1, #[.int .i64 k, .int .i64 s, .int .i64 v], 23⟩] [] (Own.row g7 0 #[]) (ys := flat ub (putL k s v)) rfl (Own.has_lit g7 0 1 #[] (by decide) rfl) (sl_mk 0 (L := putL k s v) rfl) (ub_len1 rfl) (flat_one ub_one _) rfl rfl rfl rfl Try.underlying25 (by unfold Elem; kernel_rfl) (by decide) (by unfold maxLen; omega) (by omega) ?_
        intro s8 hs8
        rw [Nat.zero_add] at hs8 ⊢
        replace hs8 := has_cast (show _ = flat ub (putL k s v) from rfl) hs8
        simp only [List.cons_append, List.nil_append, Act.put, List.setIfInBounds_toArray, List.set_cons_zero, List.set_cons_succ]
        refine wl_val (.slice p M.length c) rfl (fun _ => rfl) ?_
        simp only [Act.put, List.setIfInBounds_toArray, List.set_cons_zero, List.set_cons_succ]
        refine wl_append (e := 5) (size := 1) (bytes := 1) (m := M.length) [⟨g5, (flat ub (putL k s v)).toArray, 5⟩, ⟨g1, #[.int .i64 k, .int .i64 s, .int .i64 v], 23⟩] [] s8 (ys := flat ub M) rfl hs8 (sl_old hM) (ub_len1 rfl) (flat_one ub_one _) rfl rfl rfl rfl Try.underlying25 (by unfold Elem; kernel_rfl) (by decide) (by unfold maxLen; omega) (by omega) ?_
        intro s9 hs9
        replace hs9 := has_cast (show _ = flat ub ((putL k s v) ++ M) from by rw [flat_append] <;> rfl) hs9
        simp only [List.cons_append, List.nil_append, Act.put, List.setIfInBounds_toArray, List.set_cons_zero, List.set_cons_succ]
        refine wl_call_at 10 #[.slice s9.ptr ((putL k s v).length + M.length) s9.cap] (.tuple #[.agg #[.int .i64 ((getF ((putL k s v) ++ M)).1), .int .i64 ((getF ((putL k s v) ++ M)).2.1), .int .i64 ((getF ((putL k s v) ++ M)).2.2)], .int .i64 ((getE ((putL k s v) ++ M) : Nat) : Int)]) rfl (fun _ => by go_simp) (fun W hE => Frm.get_at ((putL k s v) ++ M) _ _ _ W (app_len rfl rfl) ((sl_own [⟨g5, (flat ub (putL k s v)).toArray, 5⟩, ⟨g1, #[.int .i64 k, .int .i64 s, .int .i64 v], 23⟩] [] hs9 rfl) W hE) (by omega) (has_cap hs9)) ?_
        simp only [Act.put, List.setIfInBounds_toArray, List.set_cons_zero, List.set_cons_succ]
        refine wl_val (.tuple #[.agg #[.int .i64 ((getF ((putL k s v) ++ M)).1), .int .i64 ((getF ((putL k s v) ++ M)).2.1), .int .i64 ((getF ((putL k s v) ++ M)).2.2)], .int .i64 ((getE ((putL k s v) ++ M) : Nat) : Int)]) rfl (fun _ => rfl) ?_
        simp only [Act.put, List.setIfInBounds_toArray, List.set_cons_zero, List.set_cons_succ]
        refine wl_val (.agg #[.int .i64 ((getF ((putL k s v) ++ M)).1), .int .i64 ((getF ((putL k s v) ++ M)).2.1), .int .i64 ((getF ((putL k s v) ++ M)).2.2)]) rfl (fun _ => by go_simp) ?_
        simp only [Act.put, List.setIfInBounds_toArray, List.set_cons_zero, List.set_cons_succ]
        refine wl_val (.int .i64 ((getE ((putL k s v) ++ M) : Nat) : Int)) rfl (fun _ => by go_simp) ?_
        simp only [Act.put, List.setIfInBounds_toArray, List.set_cons_zero, List.set_cons_succ]
        refine wl_new 23 (#[.int .i64 0, .int .i64 0, .int .i64 0]) rfl (fun _ => by go_simp) ?_
        intro g10
        simp only [Act.put, List.setIfInBounds_toArray, List.set_cons_zero, List.set_cons_succ]
        refine wl_store 0 23 (.tmp 9) (.tmp 42) (#[.int .i64 ((getF ((putL k s v) ++ M)).1), .int .i64 ((getF ((putL k s v) ++ M)).2.1), .int .i64 ((getF ((putL k s v) ++ M)).2.2)]) rfl rfl rfl rfl rfl (by kernel_rfl) rfl (by simp [Value.oneCell']) ?_
        simp only [Act.put, List.set_cons_zero]
        refine wl_val (.int .i64 ((getE ((putL k s v) ++ M) : Nat) : Int)) rfl (fun _ => rfl) ?_
        simp only [Act.put, List.setIfInBounds_toArray, List.set_cons_zero, List.set_cons_succ]
        refine wl_nil ?_
        refine we_then ?_
        refine wc_seq ?_
        refine wc_seq ?_
        refine wc_region ?_
        refine wl_val (.int .i64 ((getE ((putL k s v) ++ M) : Nat) : Int)) rfl (fun _ => rfl) ?_
        simp only [Act.put, List.setIfInBounds_toArray, List.set_cons_zero, List.set_cons_succ]
        refine wl_val (.bool (((getE ((putL k s v) ++ M) : Nat) : Int) == 0)) rfl (fun w => run_cmp rfl rfl rfl Try.underlying26 rfl w) ?_
        simp only [Act.put, List.setIfInBounds_toArray, List.set_cons_zero, List.set_cons_succ]
        refine wl_val (.slice p M.length c) rfl (fun _ => rfl) ?_
        simp only [Act.put, List.setIfInBounds_toArray, List.set_cons_zero, List.set_cons_succ]
        refine wl_val (.int .i64 (M.length : Int)) rfl (fun w => er_len rfl rfl Try.underlying25 w) ?_
        simp only [Act.put, List.setIfInBounds_toArray, List.set_cons_zero, List.set_cons_succ]
        refine wl_val (.bool ((M.length : Int) == 0)) rfl (fun w => run_cmp rfl rfl rfl Try.underlying3 rfl w) ?_
        simp only [Act.put, List.setIfInBounds_toArray, List.set_cons_zero, List.set_cons_succ]
        refine wl_val (.bool ((((getE ((putL k s v) ++ M) : Nat) : Int) == 0) != ((M.length : Int) == 0))) rfl (fun w => run_bne rfl rfl rfl Try.underlying4 rfl w) ?_
        simp only [Act.put, List.setIfInBounds_toArray, List.set_cons_zero, List.set_cons_succ]
        refine wl_nil ?_
        refine we_then ?_
        cases h11 : (((getE ((putL k s v) ++ M) : Nat) : Int) == 0)
        · skip
          have p11 : ¬ (((getE ((putL k s v) ++ M) : Nat) : Int) = 0) := by simpa using h11
          cases h12 : ((M.length : Int) == 0)
          · skip
            have p12 : ¬ ((M.length : Int) = 0) := by simpa using h12
            refine wc_false rfl ?_
            refine wc_skip ?_
            refine we_then ?_
            refine wc_seq ?_
            refine wc_seq ?_
            refine wc_region ?_
            refine wl_val (.int .i64 a) rfl (fun _ => rfl) ?_
            simp only [Act.put, List.setIfInBounds_toArray, List.set_cons_zero, List.set_cons_succ]
            refine wl_val (.bool (decide (a < 0))) rfl (fun w => run_cmp rfl rfl rfl Try.underlying3 rfl w) ?_
            simp only [Act.put, List.setIfInBounds_toArray, List.set_cons_zero, List.set_cons_succ]
            refine wl_val (.bool (decide (a < 0))) rfl (fun _ => rfl) ?_
            simp only [Act.put, List.setIfInBounds_toArray, List.set_cons_zero, List.set_cons_succ]
            cases h13 : (decide (a < 0))
            · skip
              have p13 : ¬ (a < 0) := of_decide_eq_false h13
              refine wl_val (.int .i64 a) rfl (fun _ => rfl) ?_
              simp only [Act.put, List.setIfInBounds_toArray, List.set_cons_zero, List.set_cons_succ]
              refine wl_val (.slice (some ⟨g5, 0, none⟩) ((putL k s v).length) ((putL k s v).length)) rfl (fun _ => rfl) ?_
              simp only [Act.put, List.setIfInBounds_toArray, List.set_cons_zero, List.set_cons_succ]
              refine wl_val (.int .i64 (((putL k s v).length : Nat) : Int)) rfl (fun w => er_len rfl rfl Try.underlying25 w) ?_
              simp only [Act.put, List.setIfInBounds_toArray, List.set_cons_zero, List.set_cons_succ]
              refine wl_val (.int .i64 ((8 * ((putL k s v).length) : Nat) : Int)) rfl (fun w => run_nat (X := 8) (Y := (putL k s v).length) (Z := 8 * ((putL k s v).length)) rfl rfl rfl rfl (by omega) w) ?_
              simp only [Act.put, List.setIfInBounds_toArray, List.set_cons_zero, List.set_cons_succ]
              refine wl_val (.bool (decide (((8 * ((putL k s v).length) : Nat) : Int) ≤ a))) rfl (fun w => run_cmp rfl rfl rfl Try.underlying3 rfl w) ?_
              simp only [Act.put, List.setIfInBounds_toArray, List.set_cons_zero, List.set_cons_succ]
              refine wl_val (.bool (decide (((8 * ((putL k s v).length) : Nat) : Int) ≤ a))) rfl (fun _ => rfl) ?_
              simp only [Act.put, List.setIfInBounds_toArray, List.set_cons_zero, List.set_cons_succ]
              refine wl_nil ?_
              refine we_then ?_
              cases h14 : (decide (((8 * ((putL k s v).length) : Nat) : Int) ≤ a))
              · skip
                have p14 : ¬ (((8 * ((putL k s v).length) : Nat) : Int) ≤ a) := of_decide_eq_false h14
                refine wc_false rfl ?_
                refine wc_skip ?_
                refine we_then ?_
                refine wc_seq ?_
                obtain ⟨m, rfl⟩ := Int.eq_ofNat_of_zero_le (show 0 ≤ a by omega)
                have f1 := getE_set (get_put (k := k) (s := s) (v := v) (by omega)).1 (j := m / 8) (by omega) (turned_ne ((putL k s v)[m / 8]!) (m % 8) (by omega))
                have f2 := getE_take (get_put (k := k) (s := s) (v := v) (by omega)).1 (j := m / 8) (by omega)
                refine wc_region ?_
                refine wl_lit (e := 5) #[] 0 rfl (fun _ => by go_simp) ?_
                intro g15
                simp only [Act.put, List.setIfInBounds_toArray, List.set_cons_zero, List.set_cons_succ]
                refine wl_val (.slice (some ⟨g5, 0, none⟩) ((putL k s v).length) ((putL k s v).length)) rfl (fun _ => rfl) ?_
                simp only [Act.put, List.setIfInBounds_toArray, List.set_cons_zero, List.set_cons_succ]
                refine wl_perm (perm_last [] ⟨g15, #[], 5⟩ [⟨g10, #[.int .i64 ((getF ((putL k s v) ++ M)).1), .int .i64 ((getF ((putL k s v) ++ M)).2.1), .int .i64 ((getF ((putL k s v) ++ M)).2.2)], 23⟩, ⟨g5, (flat ub (putL k s v)).toArray, 5⟩, ⟨g1, #[.int .i64 k, .int .i64 s, .int .i64 v], 23⟩] (s9.rows 5 ++ [])) ?_
                refine wl_append (e := 5) (size := 1) (bytes := 1) (m := (putL k s v).length) [⟨g10, #[.int .i64 ((getF ((putL k s v) ++ M)).1), .int .i64 ((getF ((putL k s v) ++ M)).2.1), .int .i64 ((getF ((putL k s v) ++ M)).2.2)], 23⟩, ⟨g5, (flat ub (putL k s v)).toArray, 5⟩, ⟨g1, #[.int .i64 k, .int .i64 s, .int .i64 v], 23⟩] (s9.rows 5 ++ []) (Own.row g15 0 #[]) (ys := flat ub (putL k s v)) rfl (Own.has_lit g15 0 1 #[] (by decide) rfl) (sl_mk 1 (L := putL k s v) rfl) (ub_len1 rfl) (flat_one ub_one _) rfl rfl rfl rfl Try.underlying25 (by unfold Elem; kernel_rfl) (by decide) (by unfold maxLen; omega) (by omega) ?_
                intro s16 hs16
                rw [Nat.zero_add] at hs16 ⊢
                replace hs16 := has_cast (show _ = flat ub (putL k s v) from rfl) hs16
                simp only [List.cons_append, List.nil_append, Act.put, List.setIfInBounds_toArray, List.set_cons_zero, List.set_cons_succ]
                refine wl_val (.slice s16.ptr ((putL k s v).length) s16.cap) rfl (fun _ => rfl) ?_
                simp only [Act.put, List.setIfInBounds_toArray, List.set_cons_zero, List.set_cons_succ]
                refine wl_nil ?_
                refine we_then ?_
                refine wc_seq ?_
                refine wc_region ?_
                refine wl_val (.slice s16.ptr ((putL k s v).length) s16.cap) rfl (fun _ => rfl) ?_
                simp only [Act.put, List.setIfInBounds_toArray, List.set_cons_zero, List.set_cons_succ]
                refine wl_val (.int .i64 (m : Int)) rfl (fun _ => rfl) ?_
                simp only [Act.put, List.setIfInBounds_toArray, List.set_cons_zero, List.set_cons_succ]
                refine wl_val (.int .i64 ((m / 8 : Nat) : Int)) rfl (fun w => run_nat (X := m) (Y := 8) (Z := m / 8) rfl rfl rfl rfl (by omega) w) ?_
                simp only [Act.put, List.setIfInBounds_toArray, List.set_cons_zero, List.set_cons_succ]
                refine wl_read (eaddr s16.ptr ((m / 8) * 1)) rfl (er_index (m / 8) 1 (sl_own [⟨g10, #[.int .i64 ((getF ((putL k s v) ++ M)).1), .int .i64 ((getF ((putL k s v) ++ M)).2.1), .int .i64 ((getF ((putL k s v) ++ M)).2.2)], 23⟩, ⟨g5, (flat ub (putL k s v)).toArray, 5⟩, ⟨g1, #[.int .i64 k, .int .i64 s, .int .i64 v], 23⟩] (s9.rows 5 ++ []) hs16 rfl) rfl rfl rfl rfl (by omega) (ub_len1 rfl) (by decide) Try.underlying25 (by kernel_rfl)) ?_
                simp only [Act.put, List.setIfInBounds_toArray, List.set_cons_zero, List.set_cons_succ]
                refine wl_read (.int .u8 (((putL k s v)[m / 8]!).toNat : Int)) rfl (er_cell ((m / 8) * 1) (.int .u8 (((putL k s v)[m / 8]!).toNat : Int)) (sl_own [⟨g10, #[.int .i64 ((getF ((putL k s v) ++ M)).1), .int .i64 ((getF ((putL k s v) ++ M)).2.1), .int .i64 ((getF ((putL k s v) ++ M)).2.2)], 23⟩, ⟨g5, (flat ub (putL k s v)).toArray, 5⟩, ⟨g1, #[.int .i64 k, .int .i64 s, .int .i64 v], 23⟩] (s9.rows 5 ++ []) hs16 rfl) rfl rfl (flat_cell (enc := ub) (fun _ => rfl) (putL k s v) (m / 8) 0 (by omega) (by decide)) Try.isAgg5) ?_
                simp only [Act.put, List.setIfInBounds_toArray, List.set_cons_zero, List.set_cons_succ]
                refine wl_val (.int .i64 (m : Int)) rfl (fun _ => rfl) ?_
                simp only [Act.put, List.setIfInBounds_toArray, List.set_cons_zero, List.set_cons_succ]
                refine wl_val (.int .i64 ((m % 8 : Nat) : Int)) rfl (fun w => run_nat (X := m) (Y := 8) (Z := m % 8) rfl rfl rfl rfl (by omega) w) ?_
                simp only [Act.put, List.setIfInBounds_toArray, List.set_cons_zero, List.set_cons_succ]
                refine wl_val (.int .u64 ((m % 8 : Nat) : Int)) rfl (fun w => run_conv (X := ((m % 8 : Nat) : Int)) rfl rfl Try.underlying3 Try.underlying38 (u64_in (by omega) (by omega)) w) ?_
                simp only [Act.put, List.setIfInBounds_toArray, List.set_cons_zero, List.set_cons_succ]
                refine wl_val (.int .u8 (((1#8) <<< (m % 8)).toNat : Int)) rfl (fun w => run_shl (k := .u8) (X := 1#8) (m % 8) rfl rfl rfl rfl w) ?_
                simp only [Act.put, List.setIfInBounds_toArray, List.set_cons_zero, List.set_cons_succ]
                refine wl_val (.int .u8 (((((putL k s v)[m / 8]!).toBitVec) ^^^ ((1#8) <<< (m % 8))).toNat : Int)) rfl (fun w => run_bits (k := .u8) (X := ((putL k s v)[m / 8]!).toBitVec) (Y := (1#8) <<< (m % 8)) (Z := (((putL k s v)[m / 8]!).toBitVec) ^^^ ((1#8) <<< (m % 8))) rfl rfl rfl rfl rfl w) ?_
                simp only [Act.put, List.setIfInBounds_toArray, List.set_cons_zero, List.set_cons_succ]
                refine wl_read (eaddr s16.ptr ((m / 8) * 1)) rfl (er_index (m / 8) 1 (sl_own [⟨g10, #[.int .i64 ((getF ((putL k s v) ++ M)).1), .int .i64 ((getF ((putL k s v) ++ M)).2.1), .int .i64 ((getF ((putL k s v) ++ M)).2.2)], 23⟩, ⟨g5, (flat ub (putL k s v)).toArray, 5⟩, ⟨g1, #[.int .i64 k, .int .i64 s, .int .i64 v], 23⟩] (s9.rows 5 ++ []) hs16 rfl) rfl rfl rfl rfl (by omega) (ub_len1 rfl) (by decide) Try.underlying25 (by kernel_rfl)) ?_
                simp only [Act.put, List.setIfInBounds_toArray, List.set_cons_zero, List.set_cons_succ]
                refine wl_set_own (e := 5) [⟨g10, #[.int .i64 ((getF ((putL k s v) ++ M)).1), .int .i64 ((getF ((putL k s v) ++ M)).2.1), .int .i64 ((getF ((putL k s v) ++ M)).2.2)], 23⟩, ⟨g5, (flat ub (putL k s v)).toArray, 5⟩, ⟨g1, #[.int .i64 k, .int .i64 s, .int .i64 v], 23⟩] (s9.rows 5 ++ []) s16 (m / 8) (L := putL k s v) (UInt8.ofBitVec ((((putL k s v)[m / 8]!).toBitVec) ^^^ ((1#8) <<< (m % 8)))) rfl hs16 (by omega) rfl rfl rfl rfl (by kernel_rfl) ?_
                intro s17 es17 cs17 hs17
                rw [← es17]
                (try rw [← cs17])
                simp only [List.cons_append, List.nil_append, Act.put]
                refine wl_nil ?_
                refine we_then ?_
                refine wc_seq ?_
                refine wc_region ?_
                refine wl_val (.slice s17.ptr ((putL k s v).length) s17.cap) rfl (fun _ => rfl) ?_
                simp only [Act.put, List.setIfInBounds_toArray, List.set_cons_zero, List.set_cons_succ]
                refine wl_call_at 10 #[.slice s17.ptr ((putL k s v).length) s17.cap] (.tuple #[.agg #[.int .i64 ((getF ((putL k s v).set (m / 8) (UInt8.ofBitVec ((((putL k s v)[m / 8]!).toBitVec) ^^^ ((1#8) <<< (m % 8)))))).1), .int .i64 ((getF ((putL k s v).set (m / 8) (UInt8.ofBitVec ((((putL k s v)[m / 8]!).toBitVec) ^^^ ((1#8) <<< (m % 8)))))).2.1), .int .i64 ((getF ((putL k s v).set (m / 8) (UInt8.ofBitVec ((((putL k s v)[m / 8]!).toBitVec) ^^^ ((1#8) <<< (m % 8)))))).2.2)], .int .i64 ((getE ((putL k s v).set (m / 8) (UInt8.ofBitVec ((((putL k s v)[m / 8]!).toBitVec) ^^^ ((1#8) <<< (m % 8))))) : Nat) : Int)]) rfl (fun _ => by go_simp) (fun W hE => Frm.get_at ((putL k s v).set (m / 8) (UInt8.ofBitVec ((((putL k s v)[m / 8]!).toBitVec) ^^^ ((1#8) <<< (m % 8))))) _ _ _ W (List.length_set.trans rfl) ((sl_own [⟨g10, #[.int .i64 ((getF ((putL k s v) ++ M)).1), .int .i64 ((getF ((putL k s v) ++ M)).2.1), .int .i64 ((getF ((putL k s v) ++ M)).2.2)], 23⟩, ⟨g5, (flat ub (putL k s v)).toArray, 5⟩, ⟨g1, #[.int .i64 k, .int .i64 s, .int .i64 v], 23⟩] (s9.rows 5 ++ []) hs17 rfl) W hE) (by omega) (has_cap hs17)) ?_
                simp only [Act.put, List.setIfInBounds_toArray, List.set_cons_zero, List.set_cons_succ]
                refine wl_val (.tuple #[.agg #[.int .i64 ((getF ((putL k s v).set (m / 8) (UInt8.ofBitVec ((((putL k s v)[m / 8]!).toBitVec) ^^^ ((1#8) <<< (m % 8)))))).1), .int .i64 ((getF ((putL k s v).set (m / 8) (UInt8.ofBitVec ((((putL k s v)[m / 8]!).toBitVec) ^^^ ((1#8) <<< (m % 8)))))).2.1), .int .i64 ((getF ((putL k s v).set (m / 8) (UInt8.ofBitVec ((((putL k s v)[m / 8]!).toBitVec) ^^^ ((1#8) <<< (m % 8)))))).2.2)], .int .i64 ((getE ((putL k s v).set (m / 8) (UInt8.ofBitVec ((((putL k s v)[m / 8]!).toBitVec) ^^^ ((1#8) <<< (m % 8))))) : Nat) : Int)]) rfl (fun _ => rfl) ?_
                simp only [Act.put, List.setIfInBounds_toArray, List.set_cons_zero, List.set_cons_succ]
                refine wl_val (.agg #[.int .i64 ((getF ((putL k s v).set (m / 8) (UInt8.ofBitVec ((((putL k s v)[m / 8]!).toBitVec) ^^^ ((1#8) <<< (m % 8)))))).1), .int .i64 ((getF ((putL k s v).set (m / 8) (UInt8.ofBitVec ((((putL k s v)[m / 8]!).toBitVec) ^^^ ((1#8) <<< (m % 8)))))).2.1), .int .i64 ((getF ((putL k s v).set (m / 8) (UInt8.ofBitVec ((((putL k s v)[m / 8]!).toBitVec) ^^^ ((1#8) <<< (m % 8)))))).2.2)]) rfl (fun _ => by go_simp) ?_
                simp only [Act.put, List.setIfInBounds_toArray, List.set_cons_zero, List.set_cons_succ]
                refine wl_val (.int .i64 ((getE ((putL k s v).set (m / 8) (UInt8.ofBitVec ((((putL k s v)[m / 8]!).toBitVec) ^^^ ((1#8) <<< (m % 8))))) : Nat) : Int)) rfl (fun _ => by go_simp) ?_
                simp only [Act.put, List.setIfInBounds_toArray, List.set_cons_zero, List.set_cons_succ]
                refine wl_new 23 (#[.int .i64 0, .int .i64 0, .int .i64 0]) rfl (fun _ => by go_simp) ?_
                intro g18
                simp only [Act.put, List.setIfInBounds_toArray, List.set_cons_zero, List.set_cons_succ]
                refine wl_store 0 23 (.tmp 12) (.tmp 76) (#[.int .i64 ((getF ((putL k s v).set (m / 8) (UInt8.ofBitVec ((((putL k s v)[m / 8]!).toBitVec) ^^^ ((1#8) <<< (m % 8)))))).1), .int .i64 ((getF ((putL k s v).set (m / 8) (UInt8.ofBitVec ((((putL k s v)[m / 8]!).toBitVec) ^^^ ((1#8) <<< (m % 8)))))).2.1), .int .i64 ((getF ((putL k s v).set (m / 8) (UInt8.ofBitVec ((((putL k s v)[m / 8]!).toBitVec) ^^^ ((1#8) <<< (m % 8)))))).2.2)]) rfl rfl rfl rfl rfl (by kernel_rfl) rfl (by simp [Value.oneCell']) ?_
                simp only [Act.put, List.set_cons_zero]
                refine wl_val (.int .i64 ((getE ((putL k s v).set (m / 8) (UInt8.ofBitVec ((((putL k s v)[m / 8]!).toBitVec) ^^^ ((1#8) <<< (m % 8))))) : Nat) : Int)) rfl (fun _ => rfl) ?_
                simp only [Act.put, List.setIfInBounds_toArray, List.set_cons_zero, List.set_cons_succ]
                refine wl_nil ?_
                refine we_then ?_
                refine wc_seq ?_
                refine wc_region ?_
                refine wl_val (.slice (some ⟨g5, 0, none⟩) ((putL k s v).length) ((putL k s v).length)) rfl (fun _ => rfl) ?_
                simp only [Act.put, List.setIfInBounds_toArray, List.set_cons_zero, List.set_cons_succ]
                refine wl_val (.int .i64 (m : Int)) rfl (fun _ => rfl) ?_
                simp only [Act.put, List.setIfInBounds_toArray, List.set_cons_zero, List.set_cons_succ]
                refine wl_val (.int .i64 ((m / 8 : Nat) : Int)) rfl (fun w => run_nat (X := m) (Y := 8) (Z := m / 8) rfl rfl rfl rfl (by omega) w) ?_
                simp only [Act.put, List.setIfInBounds_toArray, List.set_cons_zero, List.set_cons_succ]
                refine wl_val (.slice (some ⟨g5, 0, none⟩) (m / 8) ((putL k s v).length)) rfl (fun w => er_take (h := m / 8) rfl rfl rfl rfl (by omega) Try.underlying25 (by kernel_rfl) w) ?_
                simp only [Act.put, List.setIfInBounds_toArray, List.set_cons_zero, List.set_cons_succ]
                refine wl_call_at 10 #[.slice (some ⟨g5, 0, none⟩) (m / 8) ((putL k s v).length)] (.tuple #[.agg #[.int .i64 ((getF ((putL k s v).take (m / 8))).1), .int .i64 ((getF ((putL k s v).take (m / 8))).2.1), .int .i64 ((getF ((putL k s v).take (m / 8))).2.2)], .int .i64 ((getE ((putL k s v).take (m / 8)) : Nat) : Int)]) rfl (fun _ => by go_simp) (fun W hE => Frm.get_at ((putL k s v).take (m / 8)) _ _ _ W (ub_take_len rfl (by omega)) ((sl_take (m / 8) (sl_mk 2 (L := putL k s v) rfl)) W hE) (by omega) (by omega)) ?_
                simp only [Act.put, List.setIfInBounds_toArray, List.set_cons_zero, List.set_cons_succ]
                refine wl_val (.tuple #[.agg #[.int .i64 ((getF ((putL k s v).take (m / 8))).1), .int .i64 ((getF ((putL k s v).take (m / 8))).2.1), .int .i64 ((getF ((putL k s v).take (m / 8))).2.2)], .int .i64 ((getE ((putL k s v).take (m / 8)) : Nat) : Int)]) rfl (fun _ => rfl) ?_
                simp only [Act.put, List.setIfInBounds_toArray, List.set_cons_zero, List.set_cons_succ]
                refine wl_val (.agg #[.int .i64 ((getF ((putL k s v).take (m / 8))).1), .int .i64 ((getF ((putL k s v).take (m / 8))).2.1), .int .i64 ((getF ((putL k s v).take (m / 8))).2.2)]) rfl (fun _ => by go_simp) ?_
                simp only [Act.put, List.setIfInBounds_toArray, List.set_cons_zero, List.set_cons_succ]
                refine wl_val (.int .i64 ((getE ((putL k s v).take (m / 8)) : Nat) : Int)) rfl (fun _ => by go_simp) ?_
                simp only [Act.put, List.setIfInBounds_toArray, List.set_cons_zero, List.set_cons_succ]
                refine wl_new 23 (#[.int .i64 0, .int .i64 0, .int .i64 0]) rfl (fun _ => by go_simp) ?_
                intro g19
                simp only [Act.put, List.setIfInBounds_toArray, List.set_cons_zero, List.set_cons_succ]
                refine wl_store 0 23 (.tmp 14) (.tmp 84) (#[.int .i64 ((getF ((putL k s v).take (m / 8))).1), .int .i64 ((getF ((putL k s v).take (m / 8))).2.1), .int .i64 ((getF ((putL k s v).take (m / 8))).2.2)]) rfl rfl rfl rfl rfl (by kernel_rfl) rfl (by simp [Value.oneCell']) ?_
                simp only [Act.put, List.set_cons_zero]
                refine wl_val (.int .i64 ((getE ((putL k s v).take (m / 8)) : Nat) : Int)) rfl (fun _ => rfl) ?_
                simp only [Act.put, List.setIfInBounds_toArray, List.set_cons_zero, List.set_cons_succ]
                refine wl_nil ?_
                refine we_then ?_
                refine wc_seq ?_
                refine wc_region ?_
                refine wl_val (.int .i64 ((getE ((putL k s v).set (m / 8) (UInt8.ofBitVec ((((putL k s v)[m / 8]!).toBitVec) ^^^ ((1#8) <<< (m % 8))))) : Nat) : Int)) rfl (fun _ => rfl) ?_
                simp only [Act.put, List.setIfInBounds_toArray, List.set_cons_zero, List.set_cons_succ]
                refine wl_val (.bool (((getE ((putL k s v).set (m / 8) (UInt8.ofBitVec ((((putL k s v)[m / 8]!).toBitVec) ^^^ ((1#8) <<< (m % 8))))) : Nat) : Int) != 0)) rfl (fun w => run_cmp rfl rfl rfl Try.underlying26 rfl w) ?_
                simp only [Act.put, List.setIfInBounds_toArray, List.set_cons_zero, List.set_cons_succ]
                refine wl_val (.bool (((getE ((putL k s v).set (m / 8) (UInt8.ofBitVec ((((putL k s v)[m / 8]!).toBitVec) ^^^ ((1#8) <<< (m % 8))))) : Nat) : Int) != 0)) rfl (fun _ => rfl) ?_
                simp only [Act.put, List.setIfInBounds_toArray, List.set_cons_zero, List.set_cons_succ]
                cases h20 : (((getE ((putL k s v).set (m / 8) (UInt8.ofBitVec ((((putL k s v)[m / 8]!).toBitVec) ^^^ ((1#8) <<< (m % 8))))) : Nat) : Int) != 0)
                · skip
                  have p20 : ¬ (((getE ((putL k s v).set (m / 8) (UInt8.ofBitVec ((((putL k s v)[m / 8]!).toBitVec) ^^^ ((1#8) <<< (m % 8))))) : Nat) : Int) ≠ 0) := by simpa using h20
                  refine wl_skip rfl ?_
                  simp only [Act.put, List.setIfInBounds_toArray, List.set_cons_zero, List.set_cons_succ]
                  refine wl_skip rfl ?_
                  simp only [Act.put, List.setIfInBounds_toArray, List.set_cons_zero, List.set_cons_succ]
                  refine wl_val (.bool false) rfl (fun _ => rfl) ?_
                  simp only [Act.put, List.setIfInBounds_toArray, List.set_cons_zero, List.set_cons_succ]
                  refine wl_val (.bool false) rfl (fun _ => rfl) ?_
                  simp only [Act.put, List.setIfInBounds_toArray, List.set_cons_zero, List.set_cons_succ]
                  refine wl_nil ?_
                  refine we_then ?_
                  refine wc_ret ?_
                  refine we_ret1 (.bool false) rfl rfl rfl (fun w1 hE => ?_)
                  exact (by exfalso; omega)
                · skip
                  have p20 : ((getE ((putL k s v).set (m / 8) (UInt8.ofBitVec ((((putL k s v)[m / 8]!).toBitVec) ^^^ ((1#8) <<< (m % 8))))) : Nat) : Int) ≠ 0 := by simpa using h20
                  refine wl_val (.int .i64 ((getE ((putL k s v).take (m / 8)) : Nat) : Int)) rfl (fun _ => rfl) ?_
                  simp only [Act.put, List.setIfInBounds_toArray, List.set_cons_zero, List.set_cons_succ]
                  refine wl_val (.bool (((getE ((putL k s v).take (m / 8)) : Nat) : Int) != 0)) rfl (fun w => run_cmp rfl rfl rfl Try.underlying26 rfl w) ?_
                  simp only [Act.put, List.setIfInBounds_toArray, List.set_cons_zero, List.set_cons_succ]
                  refine wl_val (.bool (((getE ((putL k s v).take (m / 8)) : Nat) : Int) != 0)) rfl (fun _ => rfl) ?_
                  simp only [Act.put, List.setIfInBounds_toArray, List.set_cons_zero, List.set_cons_succ]
                  refine wl_val (.bool (((getE ((putL k s v).take (m / 8)) : Nat) : Int) != 0)) rfl (fun _ => rfl) ?_
                  simp only [Act.put, List.setIfInBounds_toArray, List.set_cons_zero, List.set_cons_succ]
                  refine wl_nil ?_
                  refine we_then ?_
                  refine wc_ret ?_
                  refine we_ret1 (.bool (((getE ((putL k s v).take (m / 8)) : Nat) : Int) != 0)) rfl rfl rfl (fun w1 hE => ?_)
                  exact ⟨by rw [show (((getE ((putL k s v).take (m / 8)) : Nat) : Int) != 0) = true from bne_iff_ne.2 (by omega)], hE.below⟩
              · skip
                have p14 : ((8 * ((putL k s v).length) : Nat) : Int) ≤ a := of_decide_eq_true h14
                refine wc_true rfl ?_
                refine wc_seq ?_
                refine wc_region ?_
                refine wl_val (.bool true) rfl (fun _ => rfl) ?_
                simp only [Act.put, List.setIfInBounds_toArray, List.set_cons_zero, List.set_cons_succ]
                refine wl_nil ?_
                refine we_then ?_
                refine wc_ret ?_
                refine we_then_ret ?_
                refine we_ret1 (.bool true) rfl rfl rfl (fun w1 hE => ?_)
                exact ⟨rfl, hE.below⟩
            · skip
              have p13 : a < 0 := of_decide_eq_true h13
              refine wl_skip rfl ?_
              simp only [Act.put, List.setIfInBounds_toArray, List.set_cons_zero, List.set_cons_succ]
              refine wl_skip rfl ?_
              simp only [Act.put, List.setIfInBounds_toArray, List.set_cons_zero, List.set_cons_succ]
              refine wl_skip rfl ?_
              simp only [Act.put, List.setIfInBounds_toArray, List.set_cons_zero, List.set_cons_succ]
              refine wl_skip rfl ?_
              simp only [Act.put, List.setIfInBounds_toArray, List.set_cons_zero, List.set_cons_succ]
              refine wl_skip rfl ?_
              simp only [Act.put, List.setIfInBounds_toArray, List.set_cons_zero, List.set_cons_succ]
              refine wl_val (.bool true) rfl (fun _ => rfl) ?_
              simp only [Act.put, List.setIfInBounds_toArray, List.set_cons_zero, List.set_cons_succ]
              refine wl_nil ?_
              refine we_then ?_
              refine wc_true rfl ?_
              refine wc_seq ?_
              refine wc_region ?_
              refine wl_val (.bool true) rfl (fun _ => rfl) ?_
              simp only [Act.put, List.setIfInBounds_toArray, List.set_cons_zero, List.set_cons_succ]
              refine wl_nil ?_
              refine we_then ?_
              refine wc_ret ?_
              refine we_then_ret ?_
              refine we_ret1 (.bool true) rfl rfl rfl (fun w1 hE => ?_)
              exact ⟨rfl, hE.below⟩
          · skip
            have p12 : (M.length : Int) = 0 := by simpa using h12
            refine wc_true rfl ?_
            refine wc_seq ?_
            refine wc_region ?_
            refine wl_val (.bool false) rfl (fun _ => rfl) ?_
            simp only [Act.put, List.setIfInBounds_toArray, List.set_cons_zero, List.set_cons_succ]
            refine wl_nil ?_
            refine we_then ?_
            refine wc_ret ?_
            refine we_then_ret ?_
            refine we_ret1 (.bool false) rfl rfl rfl (fun w1 hE => ?_)
            exact (by exfalso; omega)
        · skip
          have p11 : ((getE ((putL k s v) ++ M) : Nat) : Int) = 0 := by simpa using h11
          cases h21 : ((M.length : Int) == 0)
          · skip
            have p21 : ¬ ((M.length : Int) = 0) := by simpa using h21
            refine wc_true rfl ?_
            refine wc_seq ?_
            refine wc_region ?_
            refine wl_val (.bool false) rfl (fun _ => rfl) ?_
            simp only [Act.put, List.setIfInBounds_toArray, List.set_cons_zero, List.set_cons_succ]
            refine wl_nil ?_
            refine we_then ?_
            refine wc_ret ?_
            refine we_then_ret ?_
            refine we_ret1 (.bool false) rfl rfl rfl (fun w1 hE => ?_)
            exact (by exfalso; omega)
          · skip
            have p21 : (M.length : Int) = 0 := by simpa using h21
            refine wc_false rfl ?_
            refine wc_skip ?_
            refine we_then ?_
            refine wc_seq ?_
            refine wc_seq ?_
            refine wc_region ?_
            refine wl_val (.int .i64 a) rfl (fun _ => rfl) ?_
            simp only [Act.put, List.setIfInBounds_toArray, List.set_cons_zero, List.set_cons_succ]
            refine wl_val (.bool (decide (a < 0))) rfl (fun w => run_cmp rfl rfl rfl Try.underlying3 rfl w) ?_
            simp only [Act.put, List.setIfInBounds_toArray, List.set_cons_zero, List.set_cons_succ]
            refine wl_val (.bool (decide (a < 0))) rfl (fun _ => rfl) ?_
            simp only [Act.put, List.setIfInBounds_toArray, List.set_cons_zero, List.set_cons_succ]
            cases h22 : (decide (a < 0))
            · skip
              have p22 : ¬ (a < 0) := of_decide_eq_false h22
              refine wl_val (.int .i64 a) rfl (fun _ => rfl) ?_
              simp only [Act.put, List.setIfInBounds_toArray, List.set_cons_zero, List.set_cons_succ]
              refine wl_val (.slice (some ⟨g5, 0, none⟩) ((putL k s v).length) ((putL k s v).length)) rfl (fun _ => rfl) ?_
              simp only [Act.put, List.setIfInBounds_toArray, List.set_cons_zero, List.set_cons_succ]
              refine wl_val (.int .i64 (((putL k s v).length : Nat) : Int)) rfl (fun w => er_len rfl rfl Try.underlying25 w) ?_
              simp only [Act.put, List.setIfInBounds_toArray, List.set_cons_zero, List.set_cons_succ]
              refine wl_val (.int .i64 ((8 * ((putL k s v).length) : Nat) : Int)) rfl (fun w => run_nat (X := 8) (Y := (putL k s v).length) (Z := 8 * ((putL k s v).length)) rfl rfl rfl rfl (by omega) w) ?_
              simp only [Act.put, List.setIfInBounds_toArray, List.set_cons_zero, List.set_cons_succ]
              refine wl_val (.bool (decide (((8 * ((putL k s v).length) : Nat) : Int) ≤ a))) rfl (fun w => run_cmp rfl rfl rfl Try.underlying3 rfl w) ?_
              simp only [Act.put, List.setIfInBounds_toArray, List.set_cons_zero, List.set_cons_succ]
              refine wl_val (.bool (decide (((8 * ((putL k s v).length) : Nat) : Int) ≤ a))) rfl (fun _ => rfl) ?_
              simp only [Act.put, List.setIfInBounds_toArray, List.set_cons_zero, List.set_cons_succ]
              refine wl_nil ?_
              refine we_then ?_
              cases h23 : (decide (((8 * ((putL k s v).length) : Nat) : Int) ≤ a))
              · skip
                have p23 : ¬ (((8 * ((putL k s v).length) : Nat) : Int) ≤ a) := of_decide_eq_false h23
                refine wc_false rfl ?_
                refine wc_skip ?_
                refine we_then ?_
                refine wc_seq ?_
                obtain ⟨m, rfl⟩ := Int.eq_ofNat_of_zero_le (show 0 ≤ a by omega)
                have f1 := getE_set (get_put (k := k) (s := s) (v := v) (by omega)).1 (j := m / 8) (by omega) (turned_ne ((putL k s v)[m / 8]!) (m % 8) (by omega))
                have f2 := getE_take (get_put (k := k) (s := s) (v := v) (by omega)).1 (j := m / 8) (by omega)
                refine wc_region ?_
                refine wl_lit (e := 5) #[] 0 rfl (fun _ => by go_simp) ?_
                intro g24
                simp only [Act.put, List.setIfInBounds_toArray, List.set_cons_zero, List.set_cons_succ]
                refine wl_val (.slice (some ⟨g5, 0, none⟩) ((putL k s v).length) ((putL k s v).length)) rfl (fun _ => rfl) ?_
                simp only [Act.put, List.setIfInBounds_toArray, List.set_cons_zero, List.set_cons_succ]
                refine wl_perm (perm_last [] ⟨g24, #[], 5⟩ [⟨g10, #[.int .i64 ((getF ((putL k s v) ++ M)).1), .int .i64 ((getF ((putL k s v) ++ M)).2.1), .int .i64 ((getF ((putL k s v) ++ M)).2.2)], 23⟩, ⟨g5, (flat ub (putL k s v)).toArray, 5⟩, ⟨g1, #[.int .i64 k, .int .i64 s, .int .i64 v], 23⟩] (s9.rows 5 ++ [])) ?_
                refine wl_append (e := 5) (size := 1) (bytes := 1) (m := (putL k s v).length) [⟨g10, #[.int .i64 ((getF ((putL k s v) ++ M)).1), .int .i64 ((getF ((putL k s v) ++ M)).2.1), .int .i64 ((getF ((putL k s v) ++ M)).2.2)], 23⟩, ⟨g5, (flat ub (putL k s v)).toArray, 5⟩, ⟨g1, #[.int .i64 k, .int .i64 s, .int .i64 v], 23⟩] (s9.rows 5 ++ []) (Own.row g24 0 #[]) (ys := flat ub (putL k s v)) rfl (Own.has_lit g24 0 1 #[] (by decide) rfl) (sl_mk 1 (L := putL k s v) rfl) (ub_len1 rfl) (flat_one ub_one _) rfl rfl rfl rfl Try.underlying25 (by unfold Elem; kernel_rfl) (by decide) (by unfold maxLen; omega) (by omega) ?_
                intro s25 hs25
                rw [Nat.zero_add] at hs25 ⊢
                replace hs25 := has_cast (show _ = flat ub (putL k s v) from rfl) hs25
                simp only [List.cons_append, List.nil_append, Act.put, List.setIfInBounds_toArray, List.set_cons_zero, List.set_cons_succ]
                refine wl_val (.slice s25.ptr ((putL k s v).length) s25.cap) rfl (fun _ => rfl) ?_
                simp only [Act.put, List.setIfInBounds_toArray, List.set_cons_zero, List.set_cons_succ]
                refine wl_nil ?_
                refine we_then ?_
                refine wc_seq ?_
                refine wc_region ?_
                refine wl_val (.slice s25.ptr ((putL k s v).length) s25.cap) rfl (fun _ => rfl) ?_
                simp only [Act.put, List.setIfInBounds_toArray, List.set_cons_zero, List.set_cons_succ]
                refine wl_val (.int .i64 (m : Int)) rfl (fun _ => rfl) ?_
                simp only [Act.put, List.setIfInBounds_toArray, List.set_cons_zero, List.set_cons_succ]
                refine wl_val (.int .i64 ((m / 8 : Nat) : Int)) rfl (fun w => run_nat (X := m) (Y := 8) (Z := m / 8) rfl rfl rfl rfl (by omega) w) ?_
                simp only [Act.put, List.setIfInBounds_toArray, List.set_cons_zero, List.set_cons_succ]
                refine wl_read (eaddr s25.ptr ((m / 8) * 1)) rfl (er_index (m / 8) 1 (sl_own [⟨g10, #[.int .i64 ((getF ((putL k s v) ++ M)).1), .int .i64 ((getF ((putL k s v) ++ M)).2.1), .int .i64 ((getF ((putL k s v) ++ M)).2.2)], 23⟩, ⟨g5, (flat ub (putL k s v)).toArray, 5⟩, ⟨g1, #[.int .i64 k, .int .i64 s, .int .i64 v], 23⟩] (s9.rows 5 ++ []) hs25 rfl) rfl rfl rfl rfl (by omega) (ub_len1 rfl) (by decide) Try.underlying25 (by kernel_rfl)) ?_
                simp only [Act.put, List.setIfInBounds_toArray, List.set_cons_zero, List.set_cons_succ]
                refine wl_read (.int .u8 (((putL k s v)[m / 8]!).toNat : Int)) rfl (er_cell ((m / 8) * 1) (.int .u8 (((putL k s v)[m / 8]!).toNat : Int)) (sl_own [⟨g10, #[.int .i64 ((getF ((putL k s v) ++ M)).1), .int .i64 ((getF ((putL k s v) ++ M)).2.1), .int .i64 ((getF ((putL k s v) ++ M)).2.2)], 23⟩, ⟨g5, (flat ub (putL k s v)).toArray, 5⟩, ⟨g1, #[.int .i64 k, .int .i64 s, .int .i64 v], 23⟩] (s9.rows 5 ++ []) hs25 rfl) rfl rfl (flat_cell (enc := ub) (fun _ => rfl) (putL k s v) (m / 8) 0 (by omega) (by decide)) Try.isAgg5) ?_
                simp only [Act.put, List.setIfInBounds_toArray, List.set_cons_zero, List.set_cons_succ]
                refine wl_val (.int .i64 (m : Int)) rfl (fun _ => rfl) ?_
                simp only [Act.put, List.setIfInBounds_toArray, List.set_cons_zero, List.set_cons_succ]
                refine wl_val (.int .i64 ((m % 8 : Nat) : Int)) rfl (fun w => run_nat (X := m) (Y := 8) (Z := m % 8) rfl rfl rfl rfl (by omega) w) ?_
                simp only [Act.put, List.setIfInBounds_toArray, List.set_cons_zero, List.set_cons_succ]
                refine wl_val (.int .u64 ((m % 8 : Nat) : Int)) rfl (fun w => run_conv (X := ((m % 8 : Nat) : Int)) rfl rfl Try.underlying3 Try.underlying38 (u64_in (by omega) (by omega)) w) ?_
                simp only [Act.put, List.setIfInBounds_toArray, List.set_cons_zero, List.set_cons_succ]
                refine wl_val (.int .u8 (((1#8) <<< (m % 8)).toNat : Int)) rfl (fun w => run_shl (k := .u8) (X := 1#8) (m % 8) rfl rfl rfl rfl w) ?_
                simp only [Act.put, List.setIfInBounds_toArray, List.set_cons_zero, List.set_cons_succ]
                refine wl_val (.int .u8 (((((putL k s v)[m / 8]!).toBitVec) ^^^ ((1#8) <<< (m % 8))).toNat : Int)) rfl (fun w => run_bits (k := .u8) (X := ((putL k s v)[m / 8]!).toBitVec) (Y := (1#8) <<< (m % 8)) (Z := (((putL k s v)[m / 8]!).toBitVec) ^^^ ((1#8) <<< (m % 8))) rfl rfl rfl rfl rfl w) ?_
                simp only [Act.put, List.setIfInBounds_toArray, List.set_cons_zero, List.set_cons_succ]
                refine wl_read (eaddr s25.ptr ((m / 8) * 1)) rfl (er_index (m / 8) 1 (sl_own [⟨g10, #[.int .i64 ((getF ((putL k s v) ++ M)).1), .int .i64 ((getF ((putL k s v) ++ M)).2.1), .int .i64 ((getF ((putL k s v) ++ M)).2.2)], 23⟩, ⟨g5, (flat ub (putL k s v)).toArray, 5⟩, ⟨g1, #[.int .i64 k, .int .i64 s, .int .i64 v], 23⟩] (s9.rows 5 ++ []) hs25 rfl) rfl rfl rfl rfl (by omega) (ub_len1 rfl) (by decide) Try.underlying25 (by kernel_rfl)) ?_
                simp only [Act.put, List.setIfInBounds_toArray, List.set_cons_zero, List.set_cons_succ]
                refine wl_set_own (e := 5) [⟨g10, #[.int .i64 ((getF ((putL k s v) ++ M)).1), .int .i64 ((getF ((putL k s v) ++ M)).2.1), .int .i64 ((getF ((putL k s v) ++ M)).2.2)], 23⟩, ⟨g5, (flat ub (putL k s v)).toArray, 5⟩, ⟨g1, #[.int .i64 k, .int .i64 s, .int .i64 v], 23⟩] (s9.rows 5 ++ []) s25 (m / 8) (L := putL k s v) (UInt8.ofBitVec ((((putL k s v)[m / 8]!).toBitVec) ^^^ ((1#8) <<< (m % 8)))) rfl hs25 (by omega) rfl rfl rfl rfl (by kernel_rfl) ?_
                intro s26 es26 cs26 hs26
                rw [← es26]
                (try rw [← cs26])
                simp only [List.cons_append, List.nil_append, Act.put]
                refine wl_nil ?_
                refine we_then ?_
                refine wc_seq ?_
                refine wc_region ?_
                refine wl_val (.slice s26.ptr ((putL k s v).length) s26.cap) rfl (fun _ => rfl) ?_
                simp only [Act.put, List.setIfInBounds_toArray, List.set_cons_zero, List.set_cons_succ]
                refine wl_call_at 10 #[.slice s26.ptr ((putL k s v).length) s26.cap] (.tuple #[.agg #[.int .i64 ((getF ((putL k s v).set (m / 8) (UInt8.ofBitVec ((((putL k s v)[m / 8]!).toBitVec) ^^^ ((1#8) <<< (m % 8)))))).1), .int .i64 ((getF ((putL k s v).set (m / 8) (UInt8.ofBitVec ((((putL k s v)[m / 8]!).toBitVec) ^^^ ((1#8) <<< (m % 8)))))).2.1), .int .i64 ((getF ((putL k s v).set (m / 8) (UInt8.ofBitVec ((((putL k s v)[m / 8]!).toBitVec) ^^^ ((1#8) <<< (m % 8)))))).2.2)], .int .i64 ((getE ((putL k s v).set (m / 8) (UInt8.ofBitVec ((((putL k s v)[m / 8]!).toBitVec) ^^^ ((1#8) <<< (m % 8))))) : Nat) : Int)]) rfl (fun _ => by go_simp) (fun W hE => Frm.get_at ((putL k s v).set (m / 8) (UInt8.ofBitVec ((((putL k s v)[m / 8]!).toBitVec) ^^^ ((1#8) <<< (m % 8))))) _ _ _ W (List.length_set.trans rfl) ((sl_own [⟨g10, #[.int .i64 ((getF ((putL k s v) ++ M)).1), .int .i64 ((getF ((putL k s v) ++ M)).2.1), .int .i64 ((getF ((putL k s v) ++ M)).2.2)], 23⟩, ⟨g5, (flat ub (putL k s v)).toArray, 5⟩, ⟨g1, #[.int .i64 k, .int .i64 s, .int .i64 v], 23⟩] (s9.rows 5 ++ []) hs26 rfl) W hE) (by omega) (has_cap hs26)) ?_
                simp only [Act.put, List.setIfInBounds_toArray, List.set_cons_zero, List.set_cons_succ]
                refine wl_val (.tuple #[.agg #[.int .i64 ((getF ((putL k s v).set (m / 8) (UInt8.ofBitVec ((((putL k s v)[m / 8]!).toBitVec) ^^^ ((1#8) <<< (m % 8)))))).1), .int .i64 ((getF ((putL k s v).set (m / 8) (UInt8.ofBitVec ((((putL k s v)[m / 8]!).toBitVec) ^^^ ((1#8) <<< (m % 8)))))).2.1), .int .i64 ((getF ((putL k s v).set (m / 8) (UInt8.ofBitVec ((((putL k s v)[m / 8]!).toBitVec) ^^^ ((1#8) <<< (m % 8)))))).2.2)], .int .i64 ((getE ((putL k s v).set (m / 8) (UInt8.ofBitVec ((((putL k s v)[m / 8]!).toBitVec) ^^^ ((1#8) <<< (m % 8))))) : Nat) : Int)]) rfl (fun _ => rfl) ?_
                simp only [Act.put, List.setIfInBounds_toArray, List.set_cons_zero, List.set_cons_succ]
                refine wl_val (.agg #[.int .i64 ((getF ((putL k s v).set (m / 8) (UInt8.ofBitVec ((((putL k s v)[m / 8]!).toBitVec) ^^^ ((1#8) <<< (m % 8)))))).1), .int .i64 ((getF ((putL k s v).set (m / 8) (UInt8.ofBitVec ((((putL k s v)[m / 8]!).toBitVec) ^^^ ((1#8) <<< (m % 8)))))).2.1), .int .i64 ((getF ((putL k s v).set (m / 8) (UInt8.ofBitVec ((((putL k s v)[m / 8]!).toBitVec) ^^^ ((1#8) <<< (m % 8)))))).2.2)]) rfl (fun _ => by go_simp) ?_
                simp only [Act.put, List.setIfInBounds_toArray, List.set_cons_zero, List.set_cons_succ]
                refine wl_val (.int .i64 ((getE ((putL k s v).set (m / 8) (UInt8.ofBitVec ((((putL k s v)[m / 8]!).toBitVec) ^^^ ((1#8) <<< (m % 8))))) : Nat) : Int)) rfl (fun _ => by go_simp) ?_
                simp only [Act.put, List.setIfInBounds_toArray, List.set_cons_zero, List.set_cons_succ]
                refine wl_new 23 (#[.int .i64 0, .int .i64 0, .int .i64 0]) rfl (fun _ => by go_simp) ?_
                intro g27
                simp only [Act.put, List.setIfInBounds_toArray, List.set_cons_zero, List.set_cons_succ]
                refine wl_store 0 23 (.tmp 12) (.tmp 76) (#[.int .i64 ((getF ((putL k s v).set (m / 8) (UInt8.ofBitVec ((((putL k s v)[m / 8]!).toBitVec) ^^^ ((1#8) <<< (m % 8)))))).1), .int .i64 ((getF ((putL k s v).set (m / 8) (UInt8.ofBitVec ((((putL k s v)[m / 8]!).toBitVec) ^^^ ((1#8) <<< (m % 8)))))).2.1), .int .i64 ((getF ((putL k s v).set (m / 8) (UInt8.ofBitVec ((((putL k s v)[m / 8]!).toBitVec) ^^^ ((1#8) <<< (m % 8)))))).2.2)]) rfl rfl rfl rfl rfl (by kernel_rfl) rfl (by simp [Value.oneCell']) ?_
                simp only [Act.put, List.set_cons_zero]
                refine wl_val (.int .i64 ((getE ((putL k s v).set (m / 8) (UInt8.ofBitVec ((((putL k s v)[m / 8]!).toBitVec) ^^^ ((1#8) <<< (m % 8))))) : Nat) : Int)) rfl (fun _ => rfl) ?_
                simp only [Act.put, List.setIfInBounds_toArray, List.set_cons_zero, List.set_cons_succ]
                refine wl_nil ?_
                refine we_then ?_
                refine wc_seq ?_
                refine wc_region ?_
                refine wl_val (.slice (some ⟨g5, 0, none⟩) ((putL k s v).length) ((putL k s v).length)) rfl (fun _ => rfl) ?_
                simp only [Act.put, List.setIfInBounds_toArray, List.set_cons_zero, List.set_cons_succ]
                refine wl_val (.int .i64 (m : Int)) rfl (fun _ => rfl) ?_
                simp only [Act.put, List.setIfInBounds_toArray, List.set_cons_zero, List.set_cons_succ]
                refine wl_val (.int .i64 ((m / 8 : Nat) : Int)) rfl (fun w => run_nat (X := m) (Y := 8) (Z := m / 8) rfl rfl rfl rfl (by omega) w) ?_
                simp only [Act.put, List.setIfInBounds_toArray, List.set_cons_zero, List.set_cons_succ]
                refine wl_val (.slice (some ⟨g5, 0, none⟩) (m / 8) ((putL k s v).length)) rfl (fun w => er_take (h := m / 8) rfl rfl rfl rfl (by omega) Try.underlying25 (by kernel_rfl) w) ?_
                simp only [Act.put, List.setIfInBounds_toArray, List.set_cons_zero, List.set_cons_succ]
                refine wl_call_at 10 #[.slice (some ⟨g5, 0, none⟩) (m / 8) ((putL k s v).length)] (.tuple #[.agg #[.int .i64 ((getF ((putL k s v).take (m / 8))).1), .int .i64 ((getF ((putL k s v).take (m / 8))).2.1), .int .i64 ((getF ((putL k s v).take (m / 8))).2.2)], .int .i64 ((getE ((putL k s v).take (m / 8)) : Nat) : Int)]) rfl (fun _ => by go_simp) (fun W hE => Frm.get_at ((putL k s v).take (m / 8)) _ _ _ W (ub_take_len rfl (by omega)) ((sl_take (m / 8) (sl_mk 2 (L := putL k s v) rfl)) W hE) (by omega) (by omega)) ?_
                simp only [Act.put, List.setIfInBounds_toArray, List.set_cons_zero, List.set_cons_succ]
                refine wl_val (.tuple #[.agg #[.int .i64 ((getF ((putL k s v).take (m / 8))).1), .int .i64 ((getF ((putL k s v).take (m / 8))).2.1), .int .i64 ((getF ((putL k s v).take (m / 8))).2.2)], .int .i64 ((getE ((putL k s v).take (m / 8)) : Nat) : Int)]) rfl (fun _ => rfl) ?_
                simp only [Act.put, List.setIfInBounds_toArray, List.set_cons_zero, List.set_cons_succ]
                refine wl_val (.agg #[.int .i64 ((getF ((putL k s v).take (m / 8))).1), .int .i64 ((getF ((putL k s v).take (m / 8))).2.1), .int .i64 ((getF ((putL k s v).take (m / 8))).2.2)]) rfl (fun _ => by go_simp) ?_
                simp only [Act.put, List.setIfInBounds_toArray, List.set_cons_zero, List.set_cons_succ]
                refine wl_val (.int .i64 ((getE ((putL k s v).take (m / 8)) : Nat) : Int)) rfl (fun _ => by go_simp) ?_
                simp only [Act.put, List.setIfInBounds_toArray, List.set_cons_zero, List.set_cons_succ]
                refine wl_new 23 (#[.int .i64 0, .int .i64 0, .int .i64 0]) rfl (fun _ => by go_simp) ?_
                intro g28
                simp only [Act.put, List.setIfInBounds_toArray, List.set_cons_zero, List.set_cons_succ]
                refine wl_store 0 23 (.tmp 14) (.tmp 84) (#[.int .i64 ((getF ((putL k s v).take (m / 8))).1), .int .i64 ((getF ((putL k s v).take (m / 8))).2.1), .int .i64 ((getF ((putL k s v).take (m / 8))).2.2)]) rfl rfl rfl rfl rfl (by kernel_rfl) rfl (by simp [Value.oneCell']) ?_
                simp only [Act.put, List.set_cons_zero]
                refine wl_val (.int .i64 ((getE ((putL k s v).take (m / 8)) : Nat) : Int)) rfl (fun _ => rfl) ?_
                simp only [Act.put, List.setIfInBounds_toArray, List.set_cons_zero, List.set_cons_succ]
                refine wl_nil ?_
                refine we_then ?_
                refine wc_seq ?_
                refine wc_region ?_
                refine wl_val (.int .i64 ((getE ((putL k s v).set (m / 8) (UInt8.ofBitVec ((((putL k s v)[m / 8]!).toBitVec) ^^^ ((1#8) <<< (m % 8))))) : Nat) : Int)) rfl (fun _ => rfl) ?_
                simp only [Act.put, List.setIfInBounds_toArray, List.set_cons_zero, List.set_cons_succ]
                refine wl_val (.bool (((getE ((putL k s v).set (m / 8) (UInt8.ofBitVec ((((putL k s v)[m / 8]!).toBitVec) ^^^ ((1#8) <<< (m % 8))))) : Nat) : Int) != 0)) rfl (fun w => run_cmp rfl rfl rfl Try.underlying26 rfl w) ?_
                simp only [Act.put, List.setIfInBounds_toArray, List.set_cons_zero, List.set_cons_succ]
                refine wl_val (.bool (((getE ((putL k s v).set (m / 8) (UInt8.ofBitVec ((((putL k s v)[m / 8]!).toBitVec) ^^^ ((1#8) <<< (m % 8))))) : Nat) : Int) != 0)) rfl (fun _ => rfl) ?_
                simp only [Act.put, List.setIfInBounds_toArray, List.set_cons_zero, List.set_cons_succ]
                cases h29 : (((getE ((putL k s v).set (m / 8) (UInt8.ofBitVec ((((putL k s v)[m / 8]!).toBitVec) ^^^ ((1#8) <<< (m % 8))))) : Nat) : Int) != 0)
                · skip
                  have p29 : ¬ (((getE ((putL k s v).set (m / 8) (UInt8.ofBitVec ((((putL k s v)[m / 8]!).toBitVec) ^^^ ((1#8) <<< (m % 8))))) : Nat) : Int) ≠ 0) := by simpa using h29
                  refine wl_skip rfl ?_
                  simp only [Act.put, List.setIfInBounds_toArray, List.set_cons_zero, List.set_cons_succ]
                  refine wl_skip rfl ?_
                  simp only [Act.put, List.setIfInBounds_toArray, List.set_cons_zero, List.set_cons_succ]
                  refine wl_val (.bool false) rfl (fun _ => rfl) ?_
                  simp only [Act.put, List.setIfInBounds_toArray, List.set_cons_zero, List.set_cons_succ]
                  refine wl_val (.bool false) rfl (fun _ => rfl) ?_
                  simp only [Act.put, List.setIfInBounds_toArray, List.set_cons_zero, List.set_cons_succ]
                  refine wl_nil ?_
                  refine we_then ?_
                  refine wc_ret ?_
                  refine we_ret1 (.bool false) rfl rfl rfl (fun w1 hE => ?_)
                  exact (by exfalso; omega)
                · skip
                  have p29 : ((getE ((putL k s v).set (m / 8) (UInt8.ofBitVec ((((putL k s v)[m / 8]!).toBitVec) ^^^ ((1#8) <<< (m % 8))))) : Nat) : Int) ≠ 0 := by simpa using h29
                  refine wl_val (.int .i64 ((getE ((putL k s v).take (m / 8)) : Nat) : Int)) rfl (fun _ => rfl) ?_
                  simp only [Act.put, List.setIfInBounds_toArray, List.set_cons_zero, List.set_cons_succ]
                  refine wl_val (.bool (((getE ((putL k s v).take (m / 8)) : Nat) : Int) != 0)) rfl (fun w => run_cmp rfl rfl rfl Try.underlying26 rfl w) ?_
                  simp only [Act.put, List.setIfInBounds_toArray, List.set_cons_zero, List.set_cons_succ]
                  refine wl_val (.bool (((getE ((putL k s v).take (m / 8)) : Nat) : Int) != 0)) rfl (fun _ => rfl) ?_
                  simp only [Act.put, List.setIfInBounds_toArray, List.set_cons_zero, List.set_cons_succ]
                  refine wl_val (.bool (((getE ((putL k s v).take (m / 8)) : Nat) : Int) != 0)) rfl (fun _ => rfl) ?_
                  simp only [Act.put, List.setIfInBounds_toArray, List.set_cons_zero, List.set_cons_succ]
                  refine wl_nil ?_
                  refine we_then ?_
                  refine wc_ret ?_
                  refine we_ret1 (.bool (((getE ((putL k s v).take (m / 8)) : Nat) : Int) != 0)) rfl rfl rfl (fun w1 hE => ?_)
                  exact ⟨by rw [show (((getE ((putL k s v).take (m / 8)) : Nat) : Int) != 0) = true from bne_iff_ne.2 (by omega)], hE.below⟩
              · skip
                have p23 : ((8 * ((putL k s v).length) : Nat) : Int) ≤ a := of_decide_eq_true h23
                refine wc_true rfl ?_
                refine wc_seq ?_
                refine wc_region ?_
                refine wl_val (.bool true) rfl (fun _ => rfl) ?_
                simp only [Act.put, List.setIfInBounds_toArray, List.set_cons_zero, List.set_cons_succ]
                refine wl_nil ?_
                refine we_then ?_
                refine wc_ret ?_
                refine we_then_ret ?_
                refine we_ret1 (.bool true) rfl rfl rfl (fun w1 hE => ?_)
                exact ⟨rfl, hE.below⟩
            · skip
              have p22 : a < 0 := of_decide_eq_true h22
              refine wl_skip rfl ?_
              simp only [Act.put, List.setIfInBounds_toArray, List.set_cons_zero, List.set_cons_succ]
              refine wl_skip rfl ?_
              simp only [Act.put, List.setIfInBounds_toArray, List.set_cons_zero, List.set_cons_succ]
              refine wl_skip rfl ?_
              simp only [Act.put, List.setIfInBounds_toArray, List.set_cons_zero, List.set_cons_succ]
              refine wl_skip rfl ?_
              simp only [Act.put, List.setIfInBounds_toArray, List.set_cons_zero, List.set_cons_succ]
              refine wl_skip rfl ?_
              simp only [Act.put, List.setIfInBounds_toArray, List.set_cons_zero, List.set_cons_succ]
              refine wl_val (.bool true) rfl (fun _ => rfl) ?_
              simp only [Act.put, List.setIfInBounds_toArray, List.set_cons_zero, List.set_cons_succ]
              refine wl_nil ?_
              refine we_then ?_
              refine wc_true rfl ?_
              refine wc_seq ?_
              refine wc_region ?_
              refine wl_val (.bool true) rfl (fun _ => rfl) ?_
              simp only [Act.put, List.setIfInBounds_toArray, List.set_cons_zero, List.set_cons_succ]
              refine wl_nil ?_
              refine we_then ?_
              refine wc_ret ?_
              refine we_then_ret ?_
              refine we_ret1 (.bool true) rfl rfl rfl (fun w1 hE => ?_)
              exact ⟨rfl, hE.below⟩
      · skip
        have p6 : (((putL k s v).length : Nat) : Int) < 5 := of_decide_eq_true h6
        refine wc_true rfl ?_
        refine wc_seq ?_
        refine wc_region ?_
        refine wl_val (.int .i64 0) rfl (fun _ => rfl) ?_
        simp only [Act.put, List.setIfInBounds_toArray, List.set_cons_zero, List.set_cons_succ]
        refine wl_val (.bool false) rfl (fun w => run_cmp rfl rfl rfl Try.underlying26 rfl w) ?_
        simp only [Act.put, List.setIfInBounds_toArray, List.set_cons_zero, List.set_cons_succ]
        refine wl_val (.bool false) rfl (fun _ => rfl) ?_
        simp only [Act.put, List.setIfInBounds_toArray, List.set_cons_zero, List.set_cons_succ]
        refine wl_nil ?_
        refine we_then ?_
        refine wc_ret ?_
        refine we_then_ret ?_
        refine we_ret1 (.bool false) rfl rfl rfl (fun w1 hE => ?_)
        exact (by exfalso; omega)
  · skip
    have p2 : 100 < (M.length : Int) := of_decide_eq_true h2
    refine wc_true rfl ?_
    refine wc_seq ?_
    refine wc_region ?_
    refine wl_val (.bool true) rfl (fun _ => rfl) ?_
    simp only [Act.put, List.setIfInBounds_toArray, List.set_cons_zero, List.set_cons_succ]
    refine wl_nil ?_
    refine we_then ?_
    refine wc_ret ?_
    refine we_then_ret ?_
    refine we_ret1 (.bool true) rfl rfl rfl (fun w1 hE => ?_)
    exact ⟨rfl, hE.below⟩
end Go.Proofs.Ytcefkfpnbgkcdaa.Walks
