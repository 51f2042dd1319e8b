/-
  Package frame: its contracts. Condition: at most a million bytes.
-/
import Derived.Test.YtggdmchhnnjfiaaCrc
import Derived.Test.YtggdmchhnnjfiaaFr
import Derived.Test.YtggdmchhnnjfiaaSc
namespace Go.Proofs.Ytggdmchhnnjfiaa.Frm
open Go.ChangeShapes Go.WideShapes Go.ChangeAt Go.RowKit
open Arr Steady Sx Sw Sl Sb Sc Cr Crc Fr
set_option linter.unusedVariables false
set_option linter.unusedSimpArgs false
set_option maxRecDepth 100000

def loK (k : Int) : Int := if ksize k = 4 then -2147483648 else 0
def hiK (k : Int) : Int := if ksize k = 4 then 2147483647 else if ksize k = 0 then 0 else 65535
set_option maxHeartbeats 2000000 in
theorem values_any (k : Int) (w : World) :
    Calls Try.prog 18 #[.int .i64 k] w fun e w' => e = .returned (.tuple #[.int .i64 ((ksize k : Nat) : Int), .int .i64 (loK k), .int .i64 (hiK k)]) ∧ Below w.heap.size w w' := by
  refine calls_sx Try.func18 rfl ?_
  simp only [Try.ntmps18, List.size_toArray, List.length_cons, List.length_nil, Nat.reduceAdd, Nat.reduceSub, Array.replicate_succ, Array.replicate_zero, List.push_toArray, List.append_toArray, List.nil_append, List.cons_append]
  refine wc_seq ?_
  refine wc_region ?_
  refine wl_val (.int .i64 0) rfl (fun _ => rfl) ?_
  simp only [Act.put, List.setIfInBounds_toArray, List.set_cons_zero, List.set_cons_succ]
  refine wl_val (.int .i64 0) rfl (fun _ => rfl) ?_
  simp only [Act.put, List.setIfInBounds_toArray, List.set_cons_zero, List.set_cons_succ]
  refine wl_val (.int .i64 0) rfl (fun _ => rfl) ?_
  simp only [Act.put, List.setIfInBounds_toArray, List.set_cons_zero, List.set_cons_succ]
  refine wl_nil ?_
  refine we_then ?_
  refine wc_seq ?_
  refine wc_seq ?_
  refine wc_region ?_
  refine wl_val (.int .i64 k) rfl (fun _ => rfl) ?_
  simp only [Act.put, List.setIfInBounds_toArray, List.set_cons_zero, List.set_cons_succ]
  refine wl_nil ?_
  refine we_then ?_
  refine wc_block ?_
  refine wc_seq ?_
  refine wc_seq ?_
  refine wc_region ?_
  refine wl_val (.bool (k == 1)) rfl (fun w => run_cmp rfl rfl rfl Try.underlying3 rfl w) ?_
  simp only [Act.put, List.setIfInBounds_toArray, List.set_cons_zero, List.set_cons_succ]
  refine wl_val (.bool (k == 1)) rfl (fun _ => rfl) ?_
  simp only [Act.put, List.setIfInBounds_toArray, List.set_cons_zero, List.set_cons_succ]
  refine wl_nil ?_
  refine we_then ?_
  cases h1 : (k == 1)
  · skip
    have p1 : ¬ (k = 1) := by simpa using h1
    refine wc_false rfl ?_
    refine wc_seq ?_
    refine wc_region ?_
    refine wl_val (.bool (k == 2)) rfl (fun w => run_cmp rfl rfl rfl Try.underlying3 rfl w) ?_
    simp only [Act.put, List.setIfInBounds_toArray, List.set_cons_zero, List.set_cons_succ]
    refine wl_val (.bool (k == 2)) rfl (fun _ => rfl) ?_
    simp only [Act.put, List.setIfInBounds_toArray, List.set_cons_zero, List.set_cons_succ]
    refine wl_nil ?_
    refine we_then ?_
    cases h2 : (k == 2)
    · skip
      have p2 : ¬ (k = 2) := by simpa using h2
      refine wc_false rfl ?_
      refine wc_region ?_
      refine wl_val (.bool (k == 5)) rfl (fun w => run_cmp rfl rfl rfl Try.underlying3 rfl w) ?_
      simp only [Act.put, List.setIfInBounds_toArray, List.set_cons_zero, List.set_cons_succ]
      refine wl_val (.bool (k == 5)) rfl (fun _ => rfl) ?_
      simp only [Act.put, List.setIfInBounds_toArray, List.set_cons_zero, List.set_cons_succ]
      refine wl_nil ?_
      refine we_then ?_
      cases h3 : (k == 5)
      · skip
        have p3 : ¬ (k = 5) := by simpa using h3
        refine wc_false rfl ?_
        refine wc_seq ?_
        refine wc_seq ?_
        refine wc_region ?_
        refine wl_val (.bool (k == 3)) rfl (fun w => run_cmp rfl rfl rfl Try.underlying3 rfl w) ?_
        simp only [Act.put, List.setIfInBounds_toArray, List.set_cons_zero, List.set_cons_succ]
        refine wl_val (.bool (k == 3)) rfl (fun _ => rfl) ?_
        simp only [Act.put, List.setIfInBounds_toArray, List.set_cons_zero, List.set_cons_succ]
        refine wl_nil ?_
        refine we_then ?_
        cases h4 : (k == 3)
        · skip
          have p4 : ¬ (k = 3) := by simpa using h4
          refine wc_false rfl ?_
          refine wc_region ?_
          refine wl_val (.bool (k == 4)) rfl (fun w => run_cmp rfl rfl rfl Try.underlying3 rfl w) ?_
          simp only [Act.put, List.setIfInBounds_toArray, List.set_cons_zero, List.set_cons_succ]
          refine wl_val (.bool (k == 4)) rfl (fun _ => rfl) ?_
          simp only [Act.put, List.setIfInBounds_toArray, List.set_cons_zero, List.set_cons_succ]
          refine wl_nil ?_
          refine we_then ?_
          cases h5 : (k == 4)
          · skip
            have p5 : ¬ (k = 4) := by simpa using h5
            refine wc_false rfl ?_
            refine wc_skip ?_
            refine we_in ?_
            refine we_then ?_
            refine wc_seq ?_
            refine wc_region ?_
            refine wl_val (.int .i64 0) rfl (fun _ => rfl) ?_
            simp only [Act.put, List.setIfInBounds_toArray, List.set_cons_zero, List.set_cons_succ]
            refine wl_val (.int .i64 0) rfl (fun _ => rfl) ?_
            simp only [Act.put, List.setIfInBounds_toArray, List.set_cons_zero, List.set_cons_succ]
            refine wl_val (.int .i64 0) rfl (fun _ => rfl) ?_
            simp only [Act.put, List.setIfInBounds_toArray, List.set_cons_zero, List.set_cons_succ]
            refine wl_nil ?_
            refine we_then ?_
            refine wc_ret ?_
            refine we_ret3 (.int .i64 0) (.int .i64 0) (.int .i64 0) rfl rfl rfl rfl rfl (fun w1 hE => ?_)
            have e1 : ksize k = 0 := by unfold ksize; (first | rw [if_pos (by omega)] | rw [if_neg (by omega), if_pos (by omega)] | rw [if_neg (by omega), if_neg (by omega)])
            exact ⟨by unfold loK hiK; rw [e1]; rfl, hE.below⟩
          · skip
            have p5 : k = 4 := by simpa using h5
            refine wc_true rfl ?_
            refine wc_seq ?_
            refine wc_region ?_
            refine wl_val (.int .i64 4) rfl (fun _ => rfl) ?_
            simp only [Act.put, List.setIfInBounds_toArray, List.set_cons_zero, List.set_cons_succ]
            refine wl_val (.int .i64 (-2147483648)) rfl (fun _ => rfl) ?_
            simp only [Act.put, List.setIfInBounds_toArray, List.set_cons_zero, List.set_cons_succ]
            refine wl_val (.int .i64 2147483647) rfl (fun _ => rfl) ?_
            simp only [Act.put, List.setIfInBounds_toArray, List.set_cons_zero, List.set_cons_succ]
            refine wl_nil ?_
            refine we_then ?_
            refine wc_ret ?_
            refine we_in_ret ?_
            refine we_then_ret ?_
            refine we_ret3 (.int .i64 4) (.int .i64 (-2147483648)) (.int .i64 2147483647) rfl rfl rfl rfl rfl (fun w1 hE => ?_)
            have e1 : ksize k = 4 := by unfold ksize; (first | rw [if_pos (by omega)] | rw [if_neg (by omega), if_pos (by omega)] | rw [if_neg (by omega), if_neg (by omega)])
            exact ⟨by unfold loK hiK; rw [e1]; rfl, hE.below⟩
        · skip
          have p4 : k = 3 := by simpa using h4
          refine wc_true rfl ?_
          refine wc_skip ?_
          refine we_then ?_
          refine wc_true rfl ?_
          refine wc_seq ?_
          refine wc_region ?_
          refine wl_val (.int .i64 4) rfl (fun _ => rfl) ?_
          simp only [Act.put, List.setIfInBounds_toArray, List.set_cons_zero, List.set_cons_succ]
          refine wl_val (.int .i64 (-2147483648)) rfl (fun _ => rfl) ?_
          simp only [Act.put, List.setIfInBounds_toArray, List.set_cons_zero, List.set_cons_succ]
          refine wl_val (.int .i64 2147483647) rfl (fun _ => rfl) ?_
          simp only [Act.put, List.setIfInBounds_toArray, List.set_cons_zero, List.set_cons_succ]
          refine wl_nil ?_
          refine we_then ?_
          refine wc_ret ?_
          refine we_in_ret ?_
          refine we_then_ret ?_
          refine we_ret3 (.int .i64 4) (.int .i64 (-2147483648)) (.int .i64 2147483647) rfl rfl rfl rfl rfl (fun w1 hE => ?_)
          have e1 : ksize k = 4 := by unfold ksize; (first | rw [if_pos (by omega)] | rw [if_neg (by omega), if_pos (by omega)] | rw [if_neg (by omega), if_neg (by omega)])
          exact ⟨by unfold loK hiK; rw [e1]; rfl, hE.below⟩
      · skip
        have p3 : k = 5 := by simpa using h3
        refine wc_true rfl ?_
        refine wc_seq ?_
        refine wc_region ?_
        refine wl_val (.int .i64 2) rfl (fun _ => rfl) ?_
        simp only [Act.put, List.setIfInBounds_toArray, List.set_cons_zero, List.set_cons_succ]
        refine wl_val (.int .i64 0) rfl (fun _ => rfl) ?_
        simp only [Act.put, List.setIfInBounds_toArray, List.set_cons_zero, List.set_cons_succ]
        refine wl_val (.int .i64 65535) rfl (fun _ => rfl) ?_
        simp only [Act.put, List.setIfInBounds_toArray, List.set_cons_zero, List.set_cons_succ]
        refine wl_nil ?_
        refine we_then ?_
        refine wc_ret ?_
        refine we_in_ret ?_
        refine we_then_ret ?_
        refine we_ret3 (.int .i64 2) (.int .i64 0) (.int .i64 65535) rfl rfl rfl rfl rfl (fun w1 hE => ?_)
        have e1 : ksize k = 2 := by unfold ksize; (first | rw [if_pos (by omega)] | rw [if_neg (by omega), if_pos (by omega)] | rw [if_neg (by omega), if_neg (by omega)])
        exact ⟨by unfold loK hiK; rw [e1]; rfl, hE.below⟩
    · skip
      have p2 : k = 2 := by simpa using h2
      refine wc_true rfl ?_
      refine wc_skip ?_
      refine we_then ?_
      refine wc_true rfl ?_
      refine wc_seq ?_
      refine wc_region ?_
      refine wl_val (.int .i64 2) rfl (fun _ => rfl) ?_
      simp only [Act.put, List.setIfInBounds_toArray, List.set_cons_zero, List.set_cons_succ]
      refine wl_val (.int .i64 0) rfl (fun _ => rfl) ?_
      simp only [Act.put, List.setIfInBounds_toArray, List.set_cons_zero, List.set_cons_succ]
      refine wl_val (.int .i64 65535) rfl (fun _ => rfl) ?_
      simp only [Act.put, List.setIfInBounds_toArray, List.set_cons_zero, List.set_cons_succ]
      refine wl_nil ?_
      refine we_then ?_
      refine wc_ret ?_
      refine we_in_ret ?_
      refine we_then_ret ?_
      refine we_ret3 (.int .i64 2) (.int .i64 0) (.int .i64 65535) rfl rfl rfl rfl rfl (fun w1 hE => ?_)
      have e1 : ksize k = 2 := by unfold ksize; (first | rw [if_pos (by omega)] | rw [if_neg (by omega), if_pos (by omega)] | rw [if_neg (by omega), if_neg (by omega)])
      exact ⟨by unfold loK hiK; rw [e1]; rfl, hE.below⟩
  · skip
    have p1 : k = 1 := by simpa using h1
    refine wc_true rfl ?_
    refine wc_skip ?_
    refine we_then ?_
    refine wc_true rfl ?_
    refine wc_seq ?_
    refine wc_region ?_
    refine wl_val (.int .i64 2) rfl (fun _ => rfl) ?_
    simp only [Act.put, List.setIfInBounds_toArray, List.set_cons_zero, List.set_cons_succ]
    refine wl_val (.int .i64 0) rfl (fun _ => rfl) ?_
    simp only [Act.put, List.setIfInBounds_toArray, List.set_cons_zero, List.set_cons_succ]
    refine wl_val (.int .i64 65535) rfl (fun _ => rfl) ?_
    simp only [Act.put, List.setIfInBounds_toArray, List.set_cons_zero, List.set_cons_succ]
    refine wl_nil ?_
    refine we_then ?_
    refine wc_ret ?_
    refine we_in_ret ?_
    refine we_then_ret ?_
    refine we_ret3 (.int .i64 2) (.int .i64 0) (.int .i64 65535) rfl rfl rfl rfl rfl (fun w1 hE => ?_)
    have e1 : ksize k = 2 := by unfold ksize; (first | rw [if_pos (by omega)] | rw [if_neg (by omega), if_pos (by omega)] | rw [if_neg (by omega), if_neg (by omega)])
    exact ⟨by unfold loK hiK; rw [e1]; rfl, hE.below⟩
theorem values_none (k : Int) (h : ksize k = 0) (w : World) : Calls Try.prog 18 #[.int .i64 k] w fun e w' => e = .returned (.tuple #[.int .i64 0, .int .i64 0, .int .i64 0]) ∧ Below w.heap.size w w' := by
  have := values_any k w
  unfold loK hiK at this
  rw [h] at this
  exact this
theorem values_two (k : Int) (h : ksize k = 2) (w : World) : Calls Try.prog 18 #[.int .i64 k] w fun e w' => e = .returned (.tuple #[.int .i64 2, .int .i64 0, .int .i64 65535]) ∧ Below w.heap.size w w' := by
  have := values_any k w
  unfold loK hiK at this
  rw [h] at this
  exact this
theorem values_four (k : Int) (h : ksize k = 4) (w : World) : Calls Try.prog 18 #[.int .i64 k] w fun e w' => e = .returned (.tuple #[.int .i64 4, .int .i64 (-2147483648), .int .i64 2147483647]) ∧ Below w.heap.size w w' := by
  have := values_any k w
  unfold loK hiK at this
  rw [h] at this
  exact this
theorem seal_at (L : List UInt8) (p : Option Addr) (n c : Nat) (w : World) (hl : L.length = n) (hL : Reads w p (flat ub L)) (hn : L.length ≤ 1000000) :
    Calls Try.prog 19 #[.slice p n c] w fun e w' => ∃ g : Nat, True ∧ e = .returned (.slice (some ⟨g, 0, none⟩) (n + 2) (n + 2)) ∧ Env w w' [⟨g, (flat ub (seal_ L)).toArray, 5⟩] := by
  subst hl
  exact seal_any L p c w hL hn
theorem lift_no {v : Int} (h : ¬ v < 0) : lift v = v := by unfold lift; rw [if_neg h]
theorem bodyf {k s v : Int} (h : ksize k = 4) (h1 : -2147483648 ≤ v) (h2 : v ≤ 2147483647) : [by8 k, by8 s, 4] ++ [by8 (v / 16777216)] ++ [by8 (v / 65536)] ++ [by8 (v / 256)] ++ [by8 (v / 1)] = body k s v := by
  unfold body
  rw [if_pos h, h]
  have hl : lift v = v ∨ lift v = v + 4294967296 := by unfold lift; split <;> omega
  rw [byte_eq (z := v / 16777216) (z' := lift v / 16777216) (by omega), byte_eq (z := v / 65536) (z' := lift v / 65536 % 256) (by omega), byte_eq (z := v / 256) (z' := lift v / 256 % 256) (by omega), byte_eq (z := v / 1) (z' := lift v % 256) (by omega)]
  rfl
theorem bodyt {k s v : Int} (h : ksize k = 2) (h1 : 0 ≤ v) (h2 : v ≤ 65535) : [by8 k, by8 s, 2] ++ [by8 (v / 256)] ++ [by8 (v / 1)] = body k s v := by
  unfold body
  rw [if_neg (by omega), h]
  rw [lift_no (by omega), byte_eq (z := v / 256) (z' := v / 256 % 256) (by omega), byte_eq (z := v / 1) (z' := v % 256) (by omega)]
  rfl
theorem putE_kind {k s v : Int} (h : ksize k = 0) : putE k s v = 30 := by unfold putE; rw [if_pos h]
theorem putE_ok4 {k s v : Int} (h : ksize k = 4) (h0 : 0 ≤ s) (h1 : s ≤ 255) (h2 : -2147483648 ≤ v) (h3 : v ≤ 2147483647) : putE k s v = 0 := by
  unfold putE inR
  rw [h, if_neg (show ¬ (4 = 0) by decide)]
  simp only [if_true]
  rw [if_pos]
  simp only [Bool.and_eq_true, decide_eq_true_eq]
  omega
theorem putE_ok2 {k s v : Int} (h : ksize k = 2) (h0 : 0 ≤ s) (h1 : s ≤ 255) (h2 : 0 ≤ v) (h3 : v ≤ 65535) : putE k s v = 0 := by
  unfold putE inR
  rw [h, if_neg (show ¬ (2 = 0) by decide)]
  simp only [if_neg (show ¬ (2 = 4) by decide)]
  rw [if_pos]
  simp only [Bool.and_eq_true, decide_eq_true_eq]
  omega
theorem putE_bad4 {k s v : Int} (h : ksize k = 4) (hb : s < 0 ∨ 255 < s ∨ v < -2147483648 ∨ 2147483647 < v) : putE k s v = 10 := by
  unfold putE inR
  rw [h, if_neg (show ¬ (4 = 0) by decide)]
  simp only [if_true]
  rw [if_neg]
  simp only [Bool.and_eq_true, decide_eq_true_eq]
  omega
theorem putE_bad2 {k s v : Int} (h : ksize k = 2) (hb : s < 0 ∨ 255 < s ∨ v < 0 ∨ 65535 < v) : putE k s v = 10 := by
  unfold putE inR
  rw [h, if_neg (show ¬ (2 = 0) by decide)]
  simp only [if_neg (show ¬ (2 = 4) by decide)]
  rw [if_neg]
  simp only [Bool.and_eq_true, decide_eq_true_eq]
  omega
set_option maxHeartbeats 2000000 in
theorem put_any (k s v : Int) (w : World) (hk : -9223372036854775808 ≤ k ∧ k ≤ 9223372036854775807) :
    Calls Try.prog 15 #[.agg #[.int .i64 k, .int .i64 s, .int .i64 v]] w fun e w' => (∃ g : Nat, putE k s v = 0 ∧ e = .returned (.tuple #[.slice (some ⟨g, 0, none⟩) (putL k s v).length (putL k s v).length, .int .i64 0]) ∧ Env w w' [⟨g, (flat ub (putL k s v)).toArray, 5⟩]) ∨ (putE k s v ≠ 0 ∧ e = .returned (.tuple #[.slice none 0 0, .int .i64 ((putE k s v : Nat) : Int)]) ∧ Below w.heap.size w w') := by
  have k3 := ksize_three k
  refine calls_sx Try.func15 rfl ?_
  simp only [Try.ntmps15, List.size_toArray, List.length_cons, List.length_nil, Nat.reduceAdd, Nat.reduceSub, Array.replicate_succ, Array.replicate_zero, List.push_toArray, List.append_toArray, List.nil_append, List.cons_append]
  refine wc_seq ?_
  refine wc_region ?_
  refine wl_new 43 (#[.int .i64 k, .int .i64 s, .int .i64 v]) rfl (fun _ => by go_simp) ?_
  intro g1
  simp only [Act.put, List.setIfInBounds_toArray, List.set_cons_zero, List.set_cons_succ]
  refine wl_val (.slice none 0 0) rfl (fun _ => rfl) ?_
  simp only [Act.put, List.setIfInBounds_toArray, List.set_cons_zero, List.set_cons_succ]
  refine wl_val (.int .i64 0) rfl (fun _ => rfl) ?_
  simp only [Act.put, List.setIfInBounds_toArray, List.set_cons_zero, List.set_cons_succ]
  refine wl_nil ?_
  refine we_then ?_
  refine wc_seq ?_
  refine wc_region ?_
  refine wl_val (.pointer (some ⟨g1, 0, none⟩)) rfl (fun _ => by go_simp) ?_
  simp only [Act.put, List.setIfInBounds_toArray, List.set_cons_zero, List.set_cons_succ]
  refine wl_cell 3 (.tmp 10) (.int .i64 k) (own_row 0 rfl) rfl rfl rfl rfl Try.isAgg3 ?_
  simp only [Act.put, List.setIfInBounds_toArray, List.set_cons_zero, List.set_cons_succ]
  cases h2 : (ksize k == 0)
  · skip
    have p2 : ¬ (ksize k = 0) := by simpa using h2
    cases h3 : (ksize k == 4)
    · skip
      have p3 : ¬ (ksize k = 4) := by simpa using h3
      refine wl_call 18 #[.int .i64 k] (.tuple #[.int .i64 2, .int .i64 0, .int .i64 65535]) rfl (fun _ => by go_simp) (fun W => values_two k (by omega) W) ?_
      simp only [Act.put, List.setIfInBounds_toArray, List.set_cons_zero, List.set_cons_succ]
      refine wl_val (.tuple #[.int .i64 2, .int .i64 0, .int .i64 65535]) rfl (fun _ => rfl) ?_
      simp only [Act.put, List.setIfInBounds_toArray, List.set_cons_zero, List.set_cons_succ]
      refine wl_val (.int .i64 2) rfl (fun _ => by go_simp) ?_
      simp only [Act.put, List.setIfInBounds_toArray, List.set_cons_zero, List.set_cons_succ]
      refine wl_val (.int .i64 0) rfl (fun _ => by go_simp) ?_
      simp only [Act.put, List.setIfInBounds_toArray, List.set_cons_zero, List.set_cons_succ]
      refine wl_val (.int .i64 65535) rfl (fun _ => by go_simp) ?_
      simp only [Act.put, List.setIfInBounds_toArray, List.set_cons_zero, List.set_cons_succ]
      refine wl_val (.int .i64 2) rfl (fun _ => rfl) ?_
      simp only [Act.put, List.setIfInBounds_toArray, List.set_cons_zero, List.set_cons_succ]
      refine wl_val (.int .i64 0) rfl (fun _ => rfl) ?_
      simp only [Act.put, List.setIfInBounds_toArray, List.set_cons_zero, List.set_cons_succ]
      refine wl_val (.int .i64 65535) rfl (fun _ => rfl) ?_
      simp only [Act.put, List.setIfInBounds_toArray, List.set_cons_zero, List.set_cons_succ]
      refine wl_nil ?_
      refine we_then ?_
      refine wc_seq ?_
      refine wc_seq ?_
      refine wc_region ?_
      refine wl_val (.int .i64 2) rfl (fun _ => rfl) ?_
      simp only [Act.put, List.setIfInBounds_toArray, List.set_cons_zero, List.set_cons_succ]
      refine wl_val (.bool false) rfl (fun w => run_cmp rfl rfl rfl Try.underlying3 rfl w) ?_
      simp only [Act.put, List.setIfInBounds_toArray, List.set_cons_zero, List.set_cons_succ]
      refine wl_nil ?_
      refine we_then ?_
      refine wc_false rfl ?_
      refine wc_skip ?_
      refine we_then ?_
      refine wc_seq ?_
      refine wc_seq ?_
      refine wc_region ?_
      refine wl_val (.pointer (some ⟨g1, 1, none⟩)) rfl (fun _ => by go_simp) ?_
      simp only [Act.put, List.setIfInBounds_toArray, List.set_cons_zero, List.set_cons_succ]
      refine wl_cell 3 (.tmp 18) (.int .i64 s) (own_row 0 rfl) rfl rfl rfl rfl Try.isAgg3 ?_
      simp only [Act.put, List.setIfInBounds_toArray, List.set_cons_zero, List.set_cons_succ]
      refine wl_val (.bool (decide (s < 0))) rfl (fun w => run_cmp rfl rfl rfl Try.underlying3 rfl w) ?_
      simp only [Act.put, List.setIfInBounds_toArray, List.set_cons_zero, List.set_cons_succ]
      refine wl_val (.bool (decide (s < 0))) rfl (fun _ => rfl) ?_
      simp only [Act.put, List.setIfInBounds_toArray, List.set_cons_zero, List.set_cons_succ]
      cases h4 : (decide (s < 0))
      · skip
        have p4 : ¬ (s < 0) := of_decide_eq_false h4
        refine wl_val (.pointer (some ⟨g1, 1, none⟩)) rfl (fun _ => by go_simp) ?_
        simp only [Act.put, List.setIfInBounds_toArray, List.set_cons_zero, List.set_cons_succ]
        refine wl_cell 3 (.tmp 22) (.int .i64 s) (own_row 0 rfl) rfl rfl rfl rfl Try.isAgg3 ?_
        simp only [Act.put, List.setIfInBounds_toArray, List.set_cons_zero, List.set_cons_succ]
        refine wl_val (.bool (decide (255 < s))) rfl (fun w => run_cmp rfl rfl rfl Try.underlying3 rfl w) ?_
        simp only [Act.put, List.setIfInBounds_toArray, List.set_cons_zero, List.set_cons_succ]
        refine wl_val (.bool (decide (255 < s))) rfl (fun _ => rfl) ?_
        simp only [Act.put, List.setIfInBounds_toArray, List.set_cons_zero, List.set_cons_succ]
        refine wl_val (.bool (decide (255 < s))) rfl (fun _ => rfl) ?_
        simp only [Act.put, List.setIfInBounds_toArray, List.set_cons_zero, List.set_cons_succ]
        cases h5 : (decide (255 < s))
        · skip
          have p5 : ¬ (255 < s) := of_decide_eq_false h5
          refine wl_val (.pointer (some ⟨g1, 2, none⟩)) rfl (fun _ => by go_simp) ?_
          simp only [Act.put, List.setIfInBounds_toArray, List.set_cons_zero, List.set_cons_succ]
          refine wl_cell 2 (.tmp 27) (.int .i64 v) (own_row 0 rfl) rfl rfl rfl rfl Try.isAgg2 ?_
          simp only [Act.put, List.setIfInBounds_toArray, List.set_cons_zero, List.set_cons_succ]
          refine wl_val (.int .i64 0) rfl (fun _ => rfl) ?_
          simp only [Act.put, List.setIfInBounds_toArray, List.set_cons_zero, List.set_cons_succ]
          refine wl_val (.bool (decide (v < 0))) rfl (fun w => run_cmp rfl rfl rfl Try.underlying2 rfl w) ?_
          simp only [Act.put, List.setIfInBounds_toArray, List.set_cons_zero, List.set_cons_succ]
          refine wl_val (.bool (decide (v < 0))) rfl (fun _ => rfl) ?_
          simp only [Act.put, List.setIfInBounds_toArray, List.set_cons_zero, List.set_cons_succ]
          refine wl_val (.bool (decide (v < 0))) rfl (fun _ => rfl) ?_
          simp only [Act.put, List.setIfInBounds_toArray, List.set_cons_zero, List.set_cons_succ]
          cases h6 : (decide (v < 0))
          · skip
            have p6 : ¬ (v < 0) := of_decide_eq_false h6
            refine wl_val (.pointer (some ⟨g1, 2, none⟩)) rfl (fun _ => by go_simp) ?_
            simp only [Act.put, List.setIfInBounds_toArray, List.set_cons_zero, List.set_cons_succ]
            refine wl_cell 2 (.tmp 33) (.int .i64 v) (own_row 0 rfl) rfl rfl rfl rfl Try.isAgg2 ?_
            simp only [Act.put, List.setIfInBounds_toArray, List.set_cons_zero, List.set_cons_succ]
            refine wl_val (.int .i64 65535) rfl (fun _ => rfl) ?_
            simp only [Act.put, List.setIfInBounds_toArray, List.set_cons_zero, List.set_cons_succ]
            refine wl_val (.bool (decide (65535 < v))) rfl (fun w => run_cmp rfl rfl rfl Try.underlying2 rfl w) ?_
            simp only [Act.put, List.setIfInBounds_toArray, List.set_cons_zero, List.set_cons_succ]
            refine wl_val (.bool (decide (65535 < v))) rfl (fun _ => rfl) ?_
            simp only [Act.put, List.setIfInBounds_toArray, List.set_cons_zero, List.set_cons_succ]
            refine wl_nil ?_
            refine we_then ?_
            cases h7 : (decide (65535 < v))
            · skip
              have p7 : ¬ (65535 < v) := of_decide_eq_false h7
              refine wc_false rfl ?_
              refine wc_skip ?_
              refine we_then ?_
              refine wc_seq ?_
              refine wc_region ?_
              refine wl_val (.pointer (some ⟨g1, 0, none⟩)) rfl (fun _ => by go_simp) ?_
              simp only [Act.put, List.setIfInBounds_toArray, List.set_cons_zero, List.set_cons_succ]
              refine wl_cell 3 (.tmp 38) (.int .i64 k) (own_row 0 rfl) rfl rfl rfl rfl Try.isAgg3 ?_
              simp only [Act.put, List.setIfInBounds_toArray, List.set_cons_zero, List.set_cons_succ]
              refine wl_val (.int .u8 ((BitVec.ofInt 8 k).toNat : Int)) rfl (fun w => run_low (k := .u8) rfl rfl rfl Try.underlying3 Try.underlying5 w) ?_
              simp only [Act.put, List.setIfInBounds_toArray, List.set_cons_zero, List.set_cons_succ]
              refine wl_val (.pointer (some ⟨g1, 1, none⟩)) rfl (fun _ => by go_simp) ?_
              simp only [Act.put, List.setIfInBounds_toArray, List.set_cons_zero, List.set_cons_succ]
              refine wl_cell 3 (.tmp 41) (.int .i64 s) (own_row 0 rfl) rfl rfl rfl rfl Try.isAgg3 ?_
              simp only [Act.put, List.setIfInBounds_toArray, List.set_cons_zero, List.set_cons_succ]
              refine wl_val (.int .u8 ((BitVec.ofInt 8 s).toNat : Int)) rfl (fun w => run_low (k := .u8) rfl rfl rfl Try.underlying3 Try.underlying5 w) ?_
              simp only [Act.put, List.setIfInBounds_toArray, List.set_cons_zero, List.set_cons_succ]
              refine wl_val (.int .i64 2) rfl (fun _ => rfl) ?_
              simp only [Act.put, List.setIfInBounds_toArray, List.set_cons_zero, List.set_cons_succ]
              refine wl_val (.int .u8 2) rfl (fun w => run_conv (X := 2) rfl rfl Try.underlying3 Try.underlying5 (u8_in (by omega) (by omega)) w) ?_
              simp only [Act.put, List.setIfInBounds_toArray, List.set_cons_zero, List.set_cons_succ]
              refine wl_lit (e := 5) #[.int .u8 ((BitVec.ofInt 8 k).toNat : Int), .int .u8 ((BitVec.ofInt 8 s).toNat : Int), .int .u8 2] 3 rfl (fun _ => by go_simp) ?_
              intro g8
              simp only [Act.put, List.setIfInBounds_toArray, List.set_cons_zero, List.set_cons_succ]
              refine wl_val (.slice (some ⟨g8, 0, none⟩) 3 3) rfl (fun _ => rfl) ?_
              simp only [Act.put, List.setIfInBounds_toArray, List.set_cons_zero, List.set_cons_succ]
              refine wl_nil ?_
              refine we_then ?_
              refine wc_seq ?_
              refine wc_seq ?_
              refine wc_region ?_
              refine wl_val (.int .i64 2) rfl (fun _ => rfl) ?_
              simp only [Act.put, List.setIfInBounds_toArray, List.set_cons_zero, List.set_cons_succ]
              refine wl_val (.int .i64 0) rfl (fun _ => rfl) ?_
              simp only [Act.put, List.setIfInBounds_toArray, List.set_cons_zero, List.set_cons_succ]
              refine wl_nil ?_
              refine we_then ?_
              refine wc_block ?_
              refine wr_start 5 ?_
              refine wr_round ?_
              refine wc_seq ?_
              refine wc_region ?_
              refine wl_val (.bool true) rfl (fun w => run_cmp rfl rfl rfl Try.underlying3 rfl w) ?_
              simp only [Act.put, List.setIfInBounds_toArray, List.set_cons_zero, List.set_cons_succ]
              refine wl_nil ?_
              refine we_then ?_
              refine wc_seq ?_
              refine wc_true rfl ?_
              refine wc_skip ?_
              refine we_then ?_
              refine wc_seq ?_
              refine wc_block ?_
              refine wc_seq ?_
              refine wc_region ?_
              refine wl_val (.int .i64 0) rfl (fun _ => rfl) ?_
              simp only [Act.put, List.setIfInBounds_toArray, List.set_cons_zero, List.set_cons_succ]
              refine wl_val (.int .i64 0) rfl (fun _ => rfl) ?_
              simp only [Act.put, List.setIfInBounds_toArray, List.set_cons_zero, List.set_cons_succ]
              refine wl_nil ?_
              refine we_then ?_
              refine wc_region ?_
              refine wl_val (.slice (some ⟨g8, 0, none⟩) 3 3) rfl (fun _ => rfl) ?_
              simp only [Act.put, List.setIfInBounds_toArray, List.set_cons_zero, List.set_cons_succ]
              refine wl_val (.pointer (some ⟨g1, 2, none⟩)) rfl (fun _ => by go_simp) ?_
              simp only [Act.put, List.setIfInBounds_toArray, List.set_cons_zero, List.set_cons_succ]
              refine wl_cell 2 (.tmp 52) (.int .i64 v) (own_row 1 rfl) rfl rfl rfl rfl Try.isAgg2 ?_
              simp only [Act.put, List.setIfInBounds_toArray, List.set_cons_zero, List.set_cons_succ]
              refine wl_val (.int .i64 2) rfl (fun _ => rfl) ?_
              simp only [Act.put, List.setIfInBounds_toArray, List.set_cons_zero, List.set_cons_succ]
              refine wl_val (.int .i64 1) rfl (fun w => run_nat (X := 2) (Y := 1) (Z := 1) rfl rfl rfl rfl (by omega) w) ?_
              simp only [Act.put, List.setIfInBounds_toArray, List.set_cons_zero, List.set_cons_succ]
              refine wl_val (.int .i64 0) rfl (fun _ => rfl) ?_
              simp only [Act.put, List.setIfInBounds_toArray, List.set_cons_zero, List.set_cons_succ]
              refine wl_val (.int .i64 1) rfl (fun w => run_nat (X := 1) (Y := 0) (Z := 1) rfl rfl rfl rfl (by omega) w) ?_
              simp only [Act.put, List.setIfInBounds_toArray, List.set_cons_zero, List.set_cons_succ]
              refine wl_val (.int .i64 8) rfl (fun w => run_nat (X := 8) (Y := 1) (Z := 8) rfl rfl rfl rfl (by omega) w) ?_
              simp only [Act.put, List.setIfInBounds_toArray, List.set_cons_zero, List.set_cons_succ]
              refine wl_val (.int .i64 (v / 256)) rfl (fun w => run_sar 8 256 (by decide) (by decide) rfl rfl rfl w) ?_
              simp only [Act.put, List.setIfInBounds_toArray, List.set_cons_zero, List.set_cons_succ]
              refine wl_val (.int .u8 ((BitVec.ofInt 8 (v / 256)).toNat : Int)) rfl (fun w => run_low (k := .u8) rfl rfl rfl Try.underlying2 Try.underlying5 w) ?_
              simp only [Act.put, List.setIfInBounds_toArray, List.set_cons_zero, List.set_cons_succ]
              refine wl_lit (e := 5) #[.int .u8 ((BitVec.ofInt 8 (v / 256)).toNat : Int)] 1 rfl (fun _ => by go_simp) ?_
              intro g9
              simp only [Act.put, List.setIfInBounds_toArray, List.set_cons_zero, List.set_cons_succ]
              refine wl_perm (perm_last [⟨g9, #[.int .u8 ((BitVec.ofInt 8 (v / 256)).toNat : Int)], 5⟩] ⟨g8, #[.int .u8 ((BitVec.ofInt 8 k).toNat : Int), .int .u8 ((BitVec.ofInt 8 s).toNat : Int), .int .u8 2], 5⟩ [⟨g1, #[.int .i64 k, .int .i64 s, .int .i64 v], 43⟩] []) ?_
              refine wl_append (e := 5) (size := 1) (bytes := 1) (m := 1) [⟨g9, #[.int .u8 ((BitVec.ofInt 8 (v / 256)).toNat : Int)], 5⟩, ⟨g1, #[.int .i64 k, .int .i64 s, .int .i64 v], 43⟩] [] (Own.row g8 3 #[.int .u8 ((BitVec.ofInt 8 k).toNat : Int), .int .u8 ((BitVec.ofInt 8 s).toNat : Int), .int .u8 2]) (ys := flat ub ([by8 (v / 256)])) rfl (Own.has_lit g8 3 1 #[.int .u8 ((BitVec.ofInt 8 k).toNat : Int), .int .u8 ((BitVec.ofInt 8 s).toNat : Int), .int .u8 2] (by decide) rfl) (sl_lit 0 (L := [by8 (v / 256)]) rfl rfl) (ub_len1 rfl) (flat_one ub_one _) rfl rfl rfl rfl Try.underlying45 (by unfold Elem; kernel_rfl) (by decide) (by unfold maxLen; omega) (by omega) ?_
              intro s10 hs10
              replace hs10 := has_cast (show _ = flat ub (([by8 k, by8 s, 2]) ++ ([by8 (v / 256)])) from by rw [flat_append] <;> rfl) hs10
              simp only [List.cons_append, List.nil_append, Act.put, List.setIfInBounds_toArray, List.set_cons_zero, List.set_cons_succ]
              refine wl_val (.slice s10.ptr (3 + 1) s10.cap) rfl (fun _ => rfl) ?_
              simp only [Act.put, List.setIfInBounds_toArray, List.set_cons_zero, List.set_cons_succ]
              refine wl_nil ?_
              refine we_in ?_
              refine we_then ?_
              refine wc_region ?_
              refine wl_val (.int .i64 1) rfl (fun w => run_nat (X := 0) (Y := 1) (Z := 1) rfl rfl rfl rfl (by omega) w) ?_
              simp only [Act.put, List.setIfInBounds_toArray, List.set_cons_zero, List.set_cons_succ]
              refine wl_val (.int .i64 1) rfl (fun _ => rfl) ?_
              simp only [Act.put, List.setIfInBounds_toArray, List.set_cons_zero, List.set_cons_succ]
              refine wl_nil ?_
              refine we_round ?_
              refine wr_round ?_
              refine wc_seq ?_
              refine wc_region ?_
              refine wl_val (.bool true) rfl (fun w => run_cmp rfl rfl rfl Try.underlying3 rfl w) ?_
              simp only [Act.put, List.setIfInBounds_toArray, List.set_cons_zero, List.set_cons_succ]
              refine wl_nil ?_
              refine we_then ?_
              refine wc_seq ?_
              refine wc_true rfl ?_
              refine wc_skip ?_
              refine we_then ?_
              refine wc_seq ?_
              refine wc_block ?_
              refine wc_seq ?_
              refine wc_region ?_
              refine wl_val (.int .i64 1) rfl (fun _ => rfl) ?_
              simp only [Act.put, List.setIfInBounds_toArray, List.set_cons_zero, List.set_cons_succ]
              refine wl_val (.int .i64 1) rfl (fun _ => rfl) ?_
              simp only [Act.put, List.setIfInBounds_toArray, List.set_cons_zero, List.set_cons_succ]
              refine wl_nil ?_
              refine we_then ?_
              refine wc_region ?_
              refine wl_val (.slice s10.ptr (3 + 1) s10.cap) rfl (fun _ => rfl) ?_
              simp only [Act.put, List.setIfInBounds_toArray, List.set_cons_zero, List.set_cons_succ]
              refine wl_val (.pointer (some ⟨g1, 2, none⟩)) rfl (fun _ => by go_simp) ?_
              simp only [Act.put, List.setIfInBounds_toArray, List.set_cons_zero, List.set_cons_succ]
              refine wl_cell 2 (.tmp 52) (.int .i64 v) (own_row 1 rfl) rfl rfl rfl rfl Try.isAgg2 ?_
              simp only [Act.put, List.setIfInBounds_toArray, List.set_cons_zero, List.set_cons_succ]
              refine wl_val (.int .i64 2) rfl (fun _ => rfl) ?_
              simp only [Act.put, List.setIfInBounds_toArray, List.set_cons_zero, List.set_cons_succ]
              refine wl_val (.int .i64 1) rfl (fun w => run_nat (X := 2) (Y := 1) (Z := 1) rfl rfl rfl rfl (by omega) w) ?_
              simp only [Act.put, List.setIfInBounds_toArray, List.set_cons_zero, List.set_cons_succ]
              refine wl_val (.int .i64 1) rfl (fun _ => rfl) ?_
              simp only [Act.put, List.setIfInBounds_toArray, List.set_cons_zero, List.set_cons_succ]
              refine wl_val (.int .i64 0) rfl (fun w => run_nat (X := 1) (Y := 1) (Z := 0) rfl rfl rfl rfl (by omega) w) ?_
              simp only [Act.put, List.setIfInBounds_toArray, List.set_cons_zero, List.set_cons_succ]
              refine wl_val (.int .i64 0) rfl (fun w => run_nat (X := 8) (Y := 0) (Z := 0) rfl rfl rfl rfl (by omega) w) ?_
              simp only [Act.put, List.setIfInBounds_toArray, List.set_cons_zero, List.set_cons_succ]
              refine wl_val (.int .i64 (v / 1)) rfl (fun w => run_sar 0 1 (by decide) (by decide) rfl rfl rfl w) ?_
              simp only [Act.put, List.setIfInBounds_toArray, List.set_cons_zero, List.set_cons_succ]
              refine wl_val (.int .u8 ((BitVec.ofInt 8 (v / 1)).toNat : Int)) rfl (fun w => run_low (k := .u8) rfl rfl rfl Try.underlying2 Try.underlying5 w) ?_
              simp only [Act.put, List.setIfInBounds_toArray, List.set_cons_zero, List.set_cons_succ]
              refine wl_lit (e := 5) #[.int .u8 ((BitVec.ofInt 8 (v / 1)).toNat : Int)] 1 rfl (fun _ => by go_simp) ?_
              intro g11
              simp only [Act.put, List.setIfInBounds_toArray, List.set_cons_zero, List.set_cons_succ]
              refine wl_append (e := 5) (size := 1) (bytes := 1) (m := 1) [⟨g11, #[.int .u8 ((BitVec.ofInt 8 (v / 1)).toNat : Int)], 5⟩, ⟨g9, #[.int .u8 ((BitVec.ofInt 8 (v / 256)).toNat : Int)], 5⟩, ⟨g1, #[.int .i64 k, .int .i64 s, .int .i64 v], 43⟩] [] s10 (ys := flat ub ([by8 (v / 1)])) rfl hs10 (sl_lit 0 (L := [by8 (v / 1)]) rfl rfl) (ub_len1 rfl) (flat_one ub_one _) rfl rfl rfl rfl Try.underlying45 (by unfold Elem; kernel_rfl) (by decide) (by unfold maxLen; omega) (by omega) ?_
              intro s12 hs12
              replace hs12 := has_cast (show _ = flat ub (([by8 k, by8 s, 2]) ++ ([by8 (v / 256)]) ++ ([by8 (v / 1)])) from by rw [flat_append] <;> rfl) hs12
              simp only [List.cons_append, List.nil_append, Act.put, List.setIfInBounds_toArray, List.set_cons_zero, List.set_cons_succ]
              refine wl_val (.slice s12.ptr (3 + 1 + 1) s12.cap) rfl (fun _ => rfl) ?_
              simp only [Act.put, List.setIfInBounds_toArray, List.set_cons_zero, List.set_cons_succ]
              refine wl_nil ?_
              refine we_in ?_
              refine we_then ?_
              refine wc_region ?_
              refine wl_val (.int .i64 2) rfl (fun w => run_nat (X := 1) (Y := 1) (Z := 2) rfl rfl rfl rfl (by omega) w) ?_
              simp only [Act.put, List.setIfInBounds_toArray, List.set_cons_zero, List.set_cons_succ]
              refine wl_val (.int .i64 2) rfl (fun _ => rfl) ?_
              simp only [Act.put, List.setIfInBounds_toArray, List.set_cons_zero, List.set_cons_succ]
              refine wl_nil ?_
              refine we_round ?_
              refine wr_round ?_
              refine wc_seq ?_
              refine wc_region ?_
              refine wl_val (.bool false) rfl (fun w => run_cmp rfl rfl rfl Try.underlying3 rfl w) ?_
              simp only [Act.put, List.setIfInBounds_toArray, List.set_cons_zero, List.set_cons_succ]
              refine wl_nil ?_
              refine we_then ?_
              refine wc_seq ?_
              refine wc_false rfl ?_
              refine wc_exit ?_
              refine we_then_exit ?_
              refine we_then_exit ?_
              refine we_in_here ?_
              refine we_then ?_
              refine wc_seq ?_
              refine wc_region ?_
              refine wl_val (.slice s12.ptr (3 + 1 + 1) s12.cap) rfl (fun _ => rfl) ?_
              simp only [Act.put, List.setIfInBounds_toArray, List.set_cons_zero, List.set_cons_succ]
              refine wl_call_env (ι := Nat) 19 #[.slice s12.ptr (3 + 1 + 1) s12.cap] (fun g13 => .slice (some ⟨g13, 0, none⟩) (3 + 1 + 1 + 2) (3 + 1 + 1 + 2)) (fun g13 => [⟨g13, (flat ub (seal_ (([by8 k, by8 s, 2]) ++ ([by8 (v / 256)]) ++ ([by8 (v / 1)])))).toArray, 5⟩]) (fun _ => True) rfl (fun _ => by go_simp) (fun W hE => seal_at (([by8 k, by8 s, 2]) ++ ([by8 (v / 256)]) ++ ([by8 (v / 1)])) _ _ _ W (app_len (app_len rfl rfl) rfl) ((sl_own [⟨g11, #[.int .u8 ((BitVec.ofInt 8 (v / 1)).toNat : Int)], 5⟩, ⟨g9, #[.int .u8 ((BitVec.ofInt 8 (v / 256)).toNat : Int)], 5⟩, ⟨g1, #[.int .i64 k, .int .i64 s, .int .i64 v], 43⟩] [] hs12 rfl) W hE) (by simp)) ?_
              rintro g13 -
              simp only [List.cons_append, List.nil_append, Act.put, List.setIfInBounds_toArray, List.set_cons_zero, List.set_cons_succ]
              refine wl_val (.slice (some ⟨g13, 0, none⟩) (3 + 1 + 1 + 2) (3 + 1 + 1 + 2)) rfl (fun _ => rfl) ?_
              simp only [Act.put, List.setIfInBounds_toArray, List.set_cons_zero, List.set_cons_succ]
              refine wl_val (.int .i64 0) rfl (fun _ => rfl) ?_
              simp only [Act.put, List.setIfInBounds_toArray, List.set_cons_zero, List.set_cons_succ]
              refine wl_nil ?_
              refine we_then ?_
              refine wc_ret ?_
              refine we_ret2 (.slice (some ⟨g13, 0, none⟩) (3 + 1 + 1 + 2) (3 + 1 + 1 + 2)) (.int .i64 0) rfl rfl rfl rfl (fun w1 hE => ?_)
              have e1 : seal_ (([by8 k, by8 s, 2]) ++ ([by8 (v / 256)]) ++ ([by8 (v / 1)])) = putL k s v := congrArg seal_ (bodyt (by omega) (by omega) (by omega))
              have e2 : (putL k s v).length = (3 + 1 + 1 + 2) := by rw [← e1]; rfl
              exact .inl ⟨g13, putE_ok2 (by omega) (by omega) (by omega) (by omega) (by omega), by rw [e2], by rw [← e1]; exact hE.sub (List.Sublist.cons_cons _ (List.Sublist.cons _ (List.Sublist.cons _ (List.Sublist.cons _ (List.sublist_append_of_sublist_right List.Sublist.slnil)))))⟩
            · skip
              have p7 : 65535 < v := of_decide_eq_true h7
              refine wc_true rfl ?_
              refine wc_seq ?_
              refine wc_region ?_
              refine wl_val (.slice none 0 0) rfl (fun _ => rfl) ?_
              simp only [Act.put, List.setIfInBounds_toArray, List.set_cons_zero, List.set_cons_succ]
              refine wl_val (.int .i64 10) rfl (fun _ => rfl) ?_
              simp only [Act.put, List.setIfInBounds_toArray, List.set_cons_zero, List.set_cons_succ]
              refine wl_nil ?_
              refine we_then ?_
              refine wc_ret ?_
              refine we_then_ret ?_
              refine we_ret2 (.slice none 0 0) (.int .i64 10) rfl rfl rfl rfl (fun w1 hE => ?_)
              exact .inr ⟨by rw [putE_bad2 (by omega) (by omega)]; decide, by rw [putE_bad2 (by omega) (by omega)]; rfl, hE.below⟩
          · skip
            have p6 : v < 0 := of_decide_eq_true h6
            refine wl_skip rfl ?_
            simp only [Act.put, List.setIfInBounds_toArray, List.set_cons_zero, List.set_cons_succ]
            refine wl_skip rfl ?_
            simp only [Act.put, List.setIfInBounds_toArray, List.set_cons_zero, List.set_cons_succ]
            refine wl_skip rfl ?_
            simp only [Act.put, List.setIfInBounds_toArray, List.set_cons_zero, List.set_cons_succ]
            refine wl_skip rfl ?_
            simp only [Act.put, List.setIfInBounds_toArray, List.set_cons_zero, List.set_cons_succ]
            refine wl_val (.bool true) rfl (fun _ => rfl) ?_
            simp only [Act.put, List.setIfInBounds_toArray, List.set_cons_zero, List.set_cons_succ]
            refine wl_nil ?_
            refine we_then ?_
            refine wc_true rfl ?_
            refine wc_seq ?_
            refine wc_region ?_
            refine wl_val (.slice none 0 0) rfl (fun _ => rfl) ?_
            simp only [Act.put, List.setIfInBounds_toArray, List.set_cons_zero, List.set_cons_succ]
            refine wl_val (.int .i64 10) rfl (fun _ => rfl) ?_
            simp only [Act.put, List.setIfInBounds_toArray, List.set_cons_zero, List.set_cons_succ]
            refine wl_nil ?_
            refine we_then ?_
            refine wc_ret ?_
            refine we_then_ret ?_
            refine we_ret2 (.slice none 0 0) (.int .i64 10) rfl rfl rfl rfl (fun w1 hE => ?_)
            exact .inr ⟨by rw [putE_bad2 (by omega) (by omega)]; decide, by rw [putE_bad2 (by omega) (by omega)]; rfl, hE.below⟩
        · skip
          have p5 : 255 < s := of_decide_eq_true h5
          refine wl_skip rfl ?_
          simp only [Act.put, List.setIfInBounds_toArray, List.set_cons_zero, List.set_cons_succ]
          refine wl_skip rfl ?_
          simp only [Act.put, List.setIfInBounds_toArray, List.set_cons_zero, List.set_cons_succ]
          refine wl_skip rfl ?_
          simp only [Act.put, List.setIfInBounds_toArray, List.set_cons_zero, List.set_cons_succ]
          refine wl_skip rfl ?_
          simp only [Act.put, List.setIfInBounds_toArray, List.set_cons_zero, List.set_cons_succ]
          refine wl_val (.bool true) rfl (fun _ => rfl) ?_
          simp only [Act.put, List.setIfInBounds_toArray, List.set_cons_zero, List.set_cons_succ]
          refine wl_val (.bool true) rfl (fun _ => rfl) ?_
          simp only [Act.put, List.setIfInBounds_toArray, List.set_cons_zero, List.set_cons_succ]
          refine wl_skip rfl ?_
          simp only [Act.put, List.setIfInBounds_toArray, List.set_cons_zero, List.set_cons_succ]
          refine wl_skip rfl ?_
          simp only [Act.put, List.setIfInBounds_toArray, List.set_cons_zero, List.set_cons_succ]
          refine wl_skip rfl ?_
          simp only [Act.put, List.setIfInBounds_toArray, List.set_cons_zero, List.set_cons_succ]
          refine wl_skip rfl ?_
          simp only [Act.put, List.setIfInBounds_toArray, List.set_cons_zero, List.set_cons_succ]
          refine wl_val (.bool true) rfl (fun _ => rfl) ?_
          simp only [Act.put, List.setIfInBounds_toArray, List.set_cons_zero, List.set_cons_succ]
          refine wl_nil ?_
          refine we_then ?_
          refine wc_true rfl ?_
          refine wc_seq ?_
          refine wc_region ?_
          refine wl_val (.slice none 0 0) rfl (fun _ => rfl) ?_
          simp only [Act.put, List.setIfInBounds_toArray, List.set_cons_zero, List.set_cons_succ]
          refine wl_val (.int .i64 10) rfl (fun _ => rfl) ?_
          simp only [Act.put, List.setIfInBounds_toArray, List.set_cons_zero, List.set_cons_succ]
          refine wl_nil ?_
          refine we_then ?_
          refine wc_ret ?_
          refine we_then_ret ?_
          refine we_ret2 (.slice none 0 0) (.int .i64 10) rfl rfl rfl rfl (fun w1 hE => ?_)
          exact .inr ⟨by rw [putE_bad2 (by omega) (by omega)]; decide, by rw [putE_bad2 (by omega) (by omega)]; rfl, hE.below⟩
      · skip
        have p4 : s < 0 := of_decide_eq_true h4
        refine wl_skip rfl ?_
        simp only [Act.put, List.setIfInBounds_toArray, List.set_cons_zero, List.set_cons_succ]
        refine wl_skip rfl ?_
        simp only [Act.put, List.setIfInBounds_toArray, List.set_cons_zero, List.set_cons_succ]
        refine wl_skip rfl ?_
        simp only [Act.put, List.setIfInBounds_toArray, List.set_cons_zero, List.set_cons_succ]
        refine wl_val (.bool true) rfl (fun _ => rfl) ?_
        simp only [Act.put, List.setIfInBounds_toArray, List.set_cons_zero, List.set_cons_succ]
        refine wl_val (.bool true) rfl (fun _ => rfl) ?_
        simp only [Act.put, List.setIfInBounds_toArray, List.set_cons_zero, List.set_cons_succ]
        refine wl_skip rfl ?_
        simp only [Act.put, List.setIfInBounds_toArray, List.set_cons_zero, List.set_cons_succ]
        refine wl_skip rfl ?_
        simp only [Act.put, List.setIfInBounds_toArray, List.set_cons_zero, List.set_cons_succ]
        refine wl_skip rfl ?_
        simp only [Act.put, List.setIfInBounds_toArray, List.set_cons_zero, List.set_cons_succ]
        refine wl_skip rfl ?_
        simp only [Act.put, List.setIfInBounds_toArray, List.set_cons_zero, List.set_cons_succ]
        refine wl_val (.bool true) rfl (fun _ => rfl) ?_
        simp only [Act.put, List.setIfInBounds_toArray, List.set_cons_zero, List.set_cons_succ]
        refine wl_val (.bool true) rfl (fun _ => rfl) ?_
        simp only [Act.put, List.setIfInBounds_toArray, List.set_cons_zero, List.set_cons_succ]
        refine wl_skip rfl ?_
        simp only [Act.put, List.setIfInBounds_toArray, List.set_cons_zero, List.set_cons_succ]
        refine wl_skip rfl ?_
        simp only [Act.put, List.setIfInBounds_toArray, List.set_cons_zero, List.set_cons_succ]
        refine wl_skip rfl ?_
        simp only [Act.put, List.setIfInBounds_toArray, List.set_cons_zero, List.set_cons_succ]
        refine wl_skip rfl ?_
        simp only [Act.put, List.setIfInBounds_toArray, List.set_cons_zero, List.set_cons_succ]
        refine wl_val (.bool true) rfl (fun _ => rfl) ?_
        simp only [Act.put, List.setIfInBounds_toArray, List.set_cons_zero, List.set_cons_succ]
        refine wl_nil ?_
        refine we_then ?_
        refine wc_true rfl ?_
        refine wc_seq ?_
        refine wc_region ?_
        refine wl_val (.slice none 0 0) rfl (fun _ => rfl) ?_
        simp only [Act.put, List.setIfInBounds_toArray, List.set_cons_zero, List.set_cons_succ]
        refine wl_val (.int .i64 10) rfl (fun _ => rfl) ?_
        simp only [Act.put, List.setIfInBounds_toArray, List.set_cons_zero, List.set_cons_succ]
        refine wl_nil ?_
        refine we_then ?_
        refine wc_ret ?_
        refine we_then_ret ?_
        refine we_ret2 (.slice none 0 0) (.int .i64 10) rfl rfl rfl rfl (fun w1 hE => ?_)
        exact .inr ⟨by rw [putE_bad2 (by omega) (by omega)]; decide, by rw [putE_bad2 (by omega) (by omega)]; rfl, hE.below⟩
    · skip
      have p3 : ksize k = 4 := by simpa using h3
      refine wl_call 18 #[.int .i64 k] (.tuple #[.int .i64 4, .int .i64 (-2147483648), .int .i64 2147483647]) rfl (fun _ => by go_simp) (fun W => values_four k (by omega) W) ?_
      simp only [Act.put, List.setIfInBounds_toArray, List.set_cons_zero, List.set_cons_succ]
      refine wl_val (.tuple #[.int .i64 4, .int .i64 (-2147483648), .int .i64 2147483647]) rfl (fun _ => rfl) ?_
      simp only [Act.put, List.setIfInBounds_toArray, List.set_cons_zero, List.set_cons_succ]
      refine wl_val (.int .i64 4) rfl (fun _ => by go_simp) ?_
      simp only [Act.put, List.setIfInBounds_toArray, List.set_cons_zero, List.set_cons_succ]
      refine wl_val (.int .i64 (-2147483648)) rfl (fun _ => by go_simp) ?_
      simp only [Act.put, List.setIfInBounds_toArray, List.set_cons_zero, List.set_cons_succ]
      refine wl_val (.int .i64 2147483647) rfl (fun _ => by go_simp) ?_
      simp only [Act.put, List.setIfInBounds_toArray, List.set_cons_zero, List.set_cons_succ]
      refine wl_val (.int .i64 4) rfl (fun _ => rfl) ?_
      simp only [Act.put, List.setIfInBounds_toArray, List.set_cons_zero, List.set_cons_succ]
      refine wl_val (.int .i64 (-2147483648)) rfl (fun _ => rfl) ?_
      simp only [Act.put, List.setIfInBounds_toArray, List.set_cons_zero, List.set_cons_succ]
      refine wl_val (.int .i64 2147483647) rfl (fun _ => rfl) ?_
      simp only [Act.put, List.setIfInBounds_toArray, List.set_cons_zero, List.set_cons_succ]
      refine wl_nil ?_
      refine we_then ?_
      refine wc_seq ?_
      refine wc_seq ?_
      refine wc_region ?_
      refine wl_val (.int .i64 4) rfl (fun _ => rfl) ?_
      simp only [Act.put, List.setIfInBounds_toArray, List.set_cons_zero, List.set_cons_succ]
      refine wl_val (.bool false) rfl (fun w => run_cmp rfl rfl rfl Try.underlying3 rfl w) ?_
      simp only [Act.put, List.setIfInBounds_toArray, List.set_cons_zero, List.set_cons_succ]
      refine wl_nil ?_
      refine we_then ?_
      refine wc_false rfl ?_
      refine wc_skip ?_
      refine we_then ?_
      refine wc_seq ?_
      refine wc_seq ?_
      refine wc_region ?_
      refine wl_val (.pointer (some ⟨g1, 1, none⟩)) rfl (fun _ => by go_simp) ?_
      simp only [Act.put, List.setIfInBounds_toArray, List.set_cons_zero, List.set_cons_succ]
      refine wl_cell 3 (.tmp 18) (.int .i64 s) (own_row 0 rfl) rfl rfl rfl rfl Try.isAgg3 ?_
      simp only [Act.put, List.setIfInBounds_toArray, List.set_cons_zero, List.set_cons_succ]
      refine wl_val (.bool (decide (s < 0))) rfl (fun w => run_cmp rfl rfl rfl Try.underlying3 rfl w) ?_
      simp only [Act.put, List.setIfInBounds_toArray, List.set_cons_zero, List.set_cons_succ]
      refine wl_val (.bool (decide (s < 0))) rfl (fun _ => rfl) ?_
      simp only [Act.put, List.setIfInBounds_toArray, List.set_cons_zero, List.set_cons_succ]
      cases h14 : (decide (s < 0))
      · skip
        have p14 : ¬ (s < 0) := of_decide_eq_false h14
        refine wl_val (.pointer (some ⟨g1, 1, none⟩)) rfl (fun _ => by go_simp) ?_
        simp only [Act.put, List.setIfInBounds_toArray, List.set_cons_zero, List.set_cons_succ]
        refine wl_cell 3 (.tmp 22) (.int .i64 s) (own_row 0 rfl) rfl rfl rfl rfl Try.isAgg3 ?_
        simp only [Act.put, List.setIfInBounds_toArray, List.set_cons_zero, List.set_cons_succ]
        refine wl_val (.bool (decide (255 < s))) rfl (fun w => run_cmp rfl rfl rfl Try.underlying3 rfl w) ?_
        simp only [Act.put, List.setIfInBounds_toArray, List.set_cons_zero, List.set_cons_succ]
        refine wl_val (.bool (decide (255 < s))) rfl (fun _ => rfl) ?_
        simp only [Act.put, List.setIfInBounds_toArray, List.set_cons_zero, List.set_cons_succ]
        refine wl_val (.bool (decide (255 < s))) rfl (fun _ => rfl) ?_
        simp only [Act.put, List.setIfInBounds_toArray, List.set_cons_zero, List.set_cons_succ]
        cases h15 : (decide (255 < s))
        · skip
          have p15 : ¬ (255 < s) := of_decide_eq_false h15
          refine wl_val (.pointer (some ⟨g1, 2, none⟩)) rfl (fun _ => by go_simp) ?_
          simp only [Act.put, List.setIfInBounds_toArray, List.set_cons_zero, List.set_cons_succ]
          refine wl_cell 2 (.tmp 27) (.int .i64 v) (own_row 0 rfl) rfl rfl rfl rfl Try.isAgg2 ?_
          simp only [Act.put, List.setIfInBounds_toArray, List.set_cons_zero, List.set_cons_succ]
          refine wl_val (.int .i64 (-2147483648)) rfl (fun _ => rfl) ?_
          simp only [Act.put, List.setIfInBounds_toArray, List.set_cons_zero, List.set_cons_succ]
          refine wl_val (.bool (decide (v < (-2147483648)))) rfl (fun w => run_cmp rfl rfl rfl Try.underlying2 rfl w) ?_
          simp only [Act.put, List.setIfInBounds_toArray, List.set_cons_zero, List.set_cons_succ]
          refine wl_val (.bool (decide (v < (-2147483648)))) rfl (fun _ => rfl) ?_
          simp only [Act.put, List.setIfInBounds_toArray, List.set_cons_zero, List.set_cons_succ]
          refine wl_val (.bool (decide (v < (-2147483648)))) rfl (fun _ => rfl) ?_
          simp only [Act.put, List.setIfInBounds_toArray, List.set_cons_zero, List.set_cons_succ]
          cases h16 : (decide (v < (-2147483648)))
          · skip
            have p16 : ¬ (v < (-2147483648)) := of_decide_eq_false h16
            refine wl_val (.pointer (some ⟨g1, 2, none⟩)) rfl (fun _ => by go_simp) ?_
            simp only [Act.put, List.setIfInBounds_toArray, List.set_cons_zero, List.set_cons_succ]
            refine wl_cell 2 (.tmp 33) (.int .i64 v) (own_row 0 rfl) rfl rfl rfl rfl Try.isAgg2 ?_
            simp only [Act.put, List.setIfInBounds_toArray, List.set_cons_zero, List.set_cons_succ]
            refine wl_val (.int .i64 2147483647) rfl (fun _ => rfl) ?_
            simp only [Act.put, List.setIfInBounds_toArray, List.set_cons_zero, List.set_cons_succ]
            refine wl_val (.bool (decide (2147483647 < v))) rfl (fun w => run_cmp rfl rfl rfl Try.underlying2 rfl w) ?_
            simp only [Act.put, List.setIfInBounds_toArray, List.set_cons_zero, List.set_cons_succ]
            refine wl_val (.bool (decide (2147483647 < v))) rfl (fun _ => rfl) ?_
            simp only [Act.put, List.setIfInBounds_toArray, List.set_cons_zero, List.set_cons_succ]
            refine wl_nil ?_
            refine we_then ?_
            cases h17 : (decide (2147483647 < v))
            · skip
              have p17 : ¬ (2147483647 < v) := of_decide_eq_false h17
              refine wc_false rfl ?_
              refine wc_skip ?_
              refine we_then ?_
              refine wc_seq ?_
              refine wc_region ?_
              refine wl_val (.pointer (some ⟨g1, 0, none⟩)) rfl (fun _ => by go_simp) ?_
              simp only [Act.put, List.setIfInBounds_toArray, List.set_cons_zero, List.set_cons_succ]
              refine wl_cell 3 (.tmp 38) (.int .i64 k) (own_row 0 rfl) rfl rfl rfl rfl Try.isAgg3 ?_
              simp only [Act.put, List.setIfInBounds_toArray, List.set_cons_zero, List.set_cons_succ]
              refine wl_val (.int .u8 ((BitVec.ofInt 8 k).toNat : Int)) rfl (fun w => run_low (k := .u8) rfl rfl rfl Try.underlying3 Try.underlying5 w) ?_
              simp only [Act.put, List.setIfInBounds_toArray, List.set_cons_zero, List.set_cons_succ]
              refine wl_val (.pointer (some ⟨g1, 1, none⟩)) rfl (fun _ => by go_simp) ?_
              simp only [Act.put, List.setIfInBounds_toArray, List.set_cons_zero, List.set_cons_succ]
              refine wl_cell 3 (.tmp 41) (.int .i64 s) (own_row 0 rfl) rfl rfl rfl rfl Try.isAgg3 ?_
              simp only [Act.put, List.setIfInBounds_toArray, List.set_cons_zero, List.set_cons_succ]
              refine wl_val (.int .u8 ((BitVec.ofInt 8 s).toNat : Int)) rfl (fun w => run_low (k := .u8) rfl rfl rfl Try.underlying3 Try.underlying5 w) ?_
              simp only [Act.put, List.setIfInBounds_toArray, List.set_cons_zero, List.set_cons_succ]
              refine wl_val (.int .i64 4) rfl (fun _ => rfl) ?_
              simp only [Act.put, List.setIfInBounds_toArray, List.set_cons_zero, List.set_cons_succ]
              refine wl_val (.int .u8 4) rfl (fun w => run_conv (X := 4) rfl rfl Try.underlying3 Try.underlying5 (u8_in (by omega) (by omega)) w) ?_
              simp only [Act.put, List.setIfInBounds_toArray, List.set_cons_zero, List.set_cons_succ]
              refine wl_lit (e := 5) #[.int .u8 ((BitVec.ofInt 8 k).toNat : Int), .int .u8 ((BitVec.ofInt 8 s).toNat : Int), .int .u8 4] 3 rfl (fun _ => by go_simp) ?_
              intro g18
              simp only [Act.put, List.setIfInBounds_toArray, List.set_cons_zero, List.set_cons_succ]
              refine wl_val (.slice (some ⟨g18, 0, none⟩) 3 3) rfl (fun _ => rfl) ?_
              simp only [Act.put, List.setIfInBounds_toArray, List.set_cons_zero, List.set_cons_succ]
              refine wl_nil ?_
              refine we_then ?_
              refine wc_seq ?_
              refine wc_seq ?_
              refine wc_region ?_
              refine wl_val (.int .i64 4) rfl (fun _ => rfl) ?_
              simp only [Act.put, List.setIfInBounds_toArray, List.set_cons_zero, List.set_cons_succ]
              refine wl_val (.int .i64 0) rfl (fun _ => rfl) ?_
              simp only [Act.put, List.setIfInBounds_toArray, List.set_cons_zero, List.set_cons_succ]
              refine wl_nil ?_
              refine we_then ?_
              refine wc_block ?_
              refine wr_start 5 ?_
              refine wr_round ?_
              refine wc_seq ?_
              refine wc_region ?_
              refine wl_val (.bool true) rfl (fun w => run_cmp rfl rfl rfl Try.underlying3 rfl w) ?_
              simp only [Act.put, List.setIfInBounds_toArray, List.set_cons_zero, List.set_cons_succ]
              refine wl_nil ?_
              refine we_then ?_
              refine wc_seq ?_
              refine wc_true rfl ?_
              refine wc_skip ?_
              refine we_then ?_
              refine wc_seq ?_
              refine wc_block ?_
              refine wc_seq ?_
              refine wc_region ?_
              refine wl_val (.int .i64 0) rfl (fun _ => rfl) ?_
              simp only [Act.put, List.setIfInBounds_toArray, List.set_cons_zero, List.set_cons_succ]
              refine wl_val (.int .i64 0) rfl (fun _ => rfl) ?_
              simp only [Act.put, List.setIfInBounds_toArray, List.set_cons_zero, List.set_cons_succ]
              refine wl_nil ?_
              refine we_then ?_
              refine wc_region ?_
              refine wl_val (.slice (some ⟨g18, 0, none⟩) 3 3) rfl (fun _ => rfl) ?_
              simp only [Act.put, List.setIfInBounds_toArray, List.set_cons_zero, List.set_cons_succ]
              refine wl_val (.pointer (some ⟨g1, 2, none⟩)) rfl (fun _ => by go_simp) ?_
              simp only [Act.put, List.setIfInBounds_toArray, List.set_cons_zero, List.set_cons_succ]
              refine wl_cell 2 (.tmp 52) (.int .i64 v) (own_row 1 rfl) rfl rfl rfl rfl Try.isAgg2 ?_
              simp only [Act.put, List.setIfInBounds_toArray, List.set_cons_zero, List.set_cons_succ]
              refine wl_val (.int .i64 4) rfl (fun _ => rfl) ?_
              simp only [Act.put, List.setIfInBounds_toArray, List.set_cons_zero, List.set_cons_succ]
              refine wl_val (.int .i64 3) rfl (fun w => run_nat (X := 4) (Y := 1) (Z := 3) rfl rfl rfl rfl (by omega) w) ?_
              simp only [Act.put, List.setIfInBounds_toArray, List.set_cons_zero, List.set_cons_succ]
              refine wl_val (.int .i64 0) rfl (fun _ => rfl) ?_
              simp only [Act.put, List.setIfInBounds_toArray, List.set_cons_zero, List.set_cons_succ]
              refine wl_val (.int .i64 3) rfl (fun w => run_nat (X := 3) (Y := 0) (Z := 3) rfl rfl rfl rfl (by omega) w) ?_
              simp only [Act.put, List.setIfInBounds_toArray, List.set_cons_zero, List.set_cons_succ]
              refine wl_val (.int .i64 24) rfl (fun w => run_nat (X := 8) (Y := 3) (Z := 24) rfl rfl rfl rfl (by omega) w) ?_
              simp only [Act.put, List.setIfInBounds_toArray, List.set_cons_zero, List.set_cons_succ]
              refine wl_val (.int .i64 (v / 16777216)) rfl (fun w => run_sar 24 16777216 (by decide) (by decide) rfl rfl rfl w) ?_
              simp only [Act.put, List.setIfInBounds_toArray, List.set_cons_zero, List.set_cons_succ]
              refine wl_val (.int .u8 ((BitVec.ofInt 8 (v / 16777216)).toNat : Int)) rfl (fun w => run_low (k := .u8) rfl rfl rfl Try.underlying2 Try.underlying5 w) ?_
              simp only [Act.put, List.setIfInBounds_toArray, List.set_cons_zero, List.set_cons_succ]
              refine wl_lit (e := 5) #[.int .u8 ((BitVec.ofInt 8 (v / 16777216)).toNat : Int)] 1 rfl (fun _ => by go_simp) ?_
              intro g19
              simp only [Act.put, List.setIfInBounds_toArray, List.set_cons_zero, List.set_cons_succ]
              refine wl_perm (perm_last [⟨g19, #[.int .u8 ((BitVec.ofInt 8 (v / 16777216)).toNat : Int)], 5⟩] ⟨g18, #[.int .u8 ((BitVec.ofInt 8 k).toNat : Int), .int .u8 ((BitVec.ofInt 8 s).toNat : Int), .int .u8 4], 5⟩ [⟨g1, #[.int .i64 k, .int .i64 s, .int .i64 v], 43⟩] []) ?_
              refine wl_append (e := 5) (size := 1) (bytes := 1) (m := 1) [⟨g19, #[.int .u8 ((BitVec.ofInt 8 (v / 16777216)).toNat : Int)], 5⟩, ⟨g1, #[.int .i64 k, .int .i64 s, .int .i64 v], 43⟩] [] (Own.row g18 3 #[.int .u8 ((BitVec.ofInt 8 k).toNat : Int), .int .u8 ((BitVec.ofInt 8 s).toNat : Int), .int .u8 4]) (ys := flat ub ([by8 (v / 16777216)])) rfl (Own.has_lit g18 3 1 #[.int .u8 ((BitVec.ofInt 8 k).toNat : Int), .int .u8 ((BitVec.ofInt 8 s).toNat : Int), .int .u8 4] (by decide) rfl) (sl_lit 0 (L := [by8 (v / 16777216)]) rfl rfl) (ub_len1 rfl) (flat_one ub_one _) rfl rfl rfl rfl Try.underlying45 (by unfold Elem; kernel_rfl) (by decide) (by unfold maxLen; omega) (by omega) ?_
              intro s20 hs20
              replace hs20 := has_cast (show _ = flat ub (([by8 k, by8 s, 4]) ++ ([by8 (v / 16777216)])) from by rw [flat_append] <;> rfl) hs20
              simp only [List.cons_append, List.nil_append, Act.put, List.setIfInBounds_toArray, List.set_cons_zero, List.set_cons_succ]
              refine wl_val (.slice s20.ptr (3 + 1) s20.cap) rfl (fun _ => rfl) ?_
              simp only [Act.put, List.setIfInBounds_toArray, List.set_cons_zero, List.set_cons_succ]
              refine wl_nil ?_
              refine we_in ?_
              refine we_then ?_
              refine wc_region ?_
              refine wl_val (.int .i64 1) rfl (fun w => run_nat (X := 0) (Y := 1) (Z := 1) rfl rfl rfl rfl (by omega) w) ?_
              simp only [Act.put, List.setIfInBounds_toArray, List.set_cons_zero, List.set_cons_succ]
              refine wl_val (.int .i64 1) rfl (fun _ => rfl) ?_
              simp only [Act.put, List.setIfInBounds_toArray, List.set_cons_zero, List.set_cons_succ]
              refine wl_nil ?_
              refine we_round ?_
              refine wr_round ?_
              refine wc_seq ?_
              refine wc_region ?_
              refine wl_val (.bool true) rfl (fun w => run_cmp rfl rfl rfl Try.underlying3 rfl w) ?_
              simp only [Act.put, List.setIfInBounds_toArray, List.set_cons_zero, List.set_cons_succ]
              refine wl_nil ?_
              refine we_then ?_
              refine wc_seq ?_
              refine wc_true rfl ?_
              refine wc_skip ?_
              refine we_then ?_
              refine wc_seq ?_
              refine wc_block ?_
              refine wc_seq ?_
              refine wc_region ?_
              refine wl_val (.int .i64 1) rfl (fun _ => rfl) ?_
              simp only [Act.put, List.setIfInBounds_toArray, List.set_cons_zero, List.set_cons_succ]
              refine wl_val (.int .i64 1) rfl (fun _ => rfl) ?_
              simp only [Act.put, List.setIfInBounds_toArray, List.set_cons_zero, List.set_cons_succ]
              refine wl_nil ?_
              refine we_then ?_
              refine wc_region ?_
              refine wl_val (.slice s20.ptr (3 + 1) s20.cap) rfl (fun _ => rfl) ?_
              simp only [Act.put, List.setIfInBounds_toArray, List.set_cons_zero, List.set_cons_succ]
              refine wl_val (.pointer (some ⟨g1, 2, none⟩)) rfl (fun _ => by go_simp) ?_
              simp only [Act.put, List.setIfInBounds_toArray, List.set_cons_zero, List.set_cons_succ]
              refine wl_cell 2 (.tmp 52) (.int .i64 v) (own_row 1 rfl) rfl rfl rfl rfl Try.isAgg2 ?_
              simp only [Act.put, List.setIfInBounds_toArray, List.set_cons_zero, List.set_cons_succ]
              refine wl_val (.int .i64 4) rfl (fun _ => rfl) ?_
              simp only [Act.put, List.setIfInBounds_toArray, List.set_cons_zero, List.set_cons_succ]
              refine wl_val (.int .i64 3) rfl (fun w => run_nat (X := 4) (Y := 1) (Z := 3) rfl rfl rfl rfl (by omega) w) ?_
              simp only [Act.put, List.setIfInBounds_toArray, List.set_cons_zero, List.set_cons_succ]
              refine wl_val (.int .i64 1) rfl (fun _ => rfl) ?_
              simp only [Act.put, List.setIfInBounds_toArray, List.set_cons_zero, List.set_cons_succ]
              refine wl_val (.int .i64 2) rfl (fun w => run_nat (X := 3) (Y := 1) (Z := 2) rfl rfl rfl rfl (by omega) w) ?_
              simp only [Act.put, List.setIfInBounds_toArray, List.set_cons_zero, List.set_cons_succ]
              refine wl_val (.int .i64 16) rfl (fun w => run_nat (X := 8) (Y := 2) (Z := 16) rfl rfl rfl rfl (by omega) w) ?_
              simp only [Act.put, List.setIfInBounds_toArray, List.set_cons_zero, List.set_cons_succ]
              refine wl_val (.int .i64 (v / 65536)) rfl (fun w => run_sar 16 65536 (by decide) (by decide) rfl rfl rfl w) ?_
              simp only [Act.put, List.setIfInBounds_toArray, List.set_cons_zero, List.set_cons_succ]
              refine wl_val (.int .u8 ((BitVec.ofInt 8 (v / 65536)).toNat : Int)) rfl (fun w => run_low (k := .u8) rfl rfl rfl Try.underlying2 Try.underlying5 w) ?_
              simp only [Act.put, List.setIfInBounds_toArray, List.set_cons_zero, List.set_cons_succ]
              refine wl_lit (e := 5) #[.int .u8 ((BitVec.ofInt 8 (v / 65536)).toNat : Int)] 1 rfl (fun _ => by go_simp) ?_
              intro g21
              simp only [Act.put, List.setIfInBounds_toArray, List.set_cons_zero, List.set_cons_succ]
              refine wl_append (e := 5) (size := 1) (bytes := 1) (m := 1) [⟨g21, #[.int .u8 ((BitVec.ofInt 8 (v / 65536)).toNat : Int)], 5⟩, ⟨g19, #[.int .u8 ((BitVec.ofInt 8 (v / 16777216)).toNat : Int)], 5⟩, ⟨g1, #[.int .i64 k, .int .i64 s, .int .i64 v], 43⟩] [] s20 (ys := flat ub ([by8 (v / 65536)])) rfl hs20 (sl_lit 0 (L := [by8 (v / 65536)]) rfl rfl) (ub_len1 rfl) (flat_one ub_one _) rfl rfl rfl rfl Try.underlying45 (by unfold Elem; kernel_rfl) (by decide) (by unfold maxLen; omega) (by omega) ?_
              intro s22 hs22
              replace hs22 := has_cast (show _ = flat ub (([by8 k, by8 s, 4]) ++ ([by8 (v / 16777216)]) ++ ([by8 (v / 65536)])) from by rw [flat_append] <;> rfl) hs22
              simp only [List.cons_append, List.nil_append, Act.put, List.setIfInBounds_toArray, List.set_cons_zero, List.set_cons_succ]
              refine wl_val (.slice s22.ptr (3 + 1 + 1) s22.cap) rfl (fun _ => rfl) ?_
              simp only [Act.put, List.setIfInBounds_toArray, List.set_cons_zero, List.set_cons_succ]
              refine wl_nil ?_
              refine we_in ?_
              refine we_then ?_
              refine wc_region ?_
              refine wl_val (.int .i64 2) rfl (fun w => run_nat (X := 1) (Y := 1) (Z := 2) rfl rfl rfl rfl (by omega) w) ?_
              simp only [Act.put, List.setIfInBounds_toArray, List.set_cons_zero, List.set_cons_succ]
              refine wl_val (.int .i64 2) rfl (fun _ => rfl) ?_
              simp only [Act.put, List.setIfInBounds_toArray, List.set_cons_zero, List.set_cons_succ]
              refine wl_nil ?_
              refine we_round ?_
              refine wr_round ?_
              refine wc_seq ?_
              refine wc_region ?_
              refine wl_val (.bool true) rfl (fun w => run_cmp rfl rfl rfl Try.underlying3 rfl w) ?_
              simp only [Act.put, List.setIfInBounds_toArray, List.set_cons_zero, List.set_cons_succ]
              refine wl_nil ?_
              refine we_then ?_
              refine wc_seq ?_
              refine wc_true rfl ?_
              refine wc_skip ?_
              refine we_then ?_
              refine wc_seq ?_
              refine wc_block ?_
              refine wc_seq ?_
              refine wc_region ?_
              refine wl_val (.int .i64 2) rfl (fun _ => rfl) ?_
              simp only [Act.put, List.setIfInBounds_toArray, List.set_cons_zero, List.set_cons_succ]
              refine wl_val (.int .i64 2) rfl (fun _ => rfl) ?_
              simp only [Act.put, List.setIfInBounds_toArray, List.set_cons_zero, List.set_cons_succ]
              refine wl_nil ?_
              refine we_then ?_
              refine wc_region ?_
              refine wl_val (.slice s22.ptr (3 + 1 + 1) s22.cap) rfl (fun _ => rfl) ?_
              simp only [Act.put, List.setIfInBounds_toArray, List.set_cons_zero, List.set_cons_succ]
              refine wl_val (.pointer (some ⟨g1, 2, none⟩)) rfl (fun _ => by go_simp) ?_
              simp only [Act.put, List.setIfInBounds_toArray, List.set_cons_zero, List.set_cons_succ]
              refine wl_cell 2 (.tmp 52) (.int .i64 v) (own_row 2 rfl) rfl rfl rfl rfl Try.isAgg2 ?_
              simp only [Act.put, List.setIfInBounds_toArray, List.set_cons_zero, List.set_cons_succ]
              refine wl_val (.int .i64 4) rfl (fun _ => rfl) ?_
              simp only [Act.put, List.setIfInBounds_toArray, List.set_cons_zero, List.set_cons_succ]
              refine wl_val (.int .i64 3) rfl (fun w => run_nat (X := 4) (Y := 1) (Z := 3) rfl rfl rfl rfl (by omega) w) ?_
              simp only [Act.put, List.setIfInBounds_toArray, List.set_cons_zero, List.set_cons_succ]
              refine wl_val (.int .i64 2) rfl (fun _ => rfl) ?_
              simp only [Act.put, List.setIfInBounds_toArray, List.set_cons_zero, List.set_cons_succ]
              refine wl_val (.int .i64 1) rfl (fun w => run_nat (X := 3) (Y := 2) (Z := 1) rfl rfl rfl rfl (by omega) w) ?_
              simp only [Act.put, List.setIfInBounds_toArray, List.set_cons_zero, List.set_cons_succ]
              refine wl_val (.int .i64 8) rfl (fun w => run_nat (X := 8) (Y := 1) (Z := 8) rfl rfl rfl rfl (by omega) w) ?_
              simp only [Act.put, List.setIfInBounds_toArray, List.set_cons_zero, List.set_cons_succ]
              refine wl_val (.int .i64 (v / 256)) rfl (fun w => run_sar 8 256 (by decide) (by decide) rfl rfl rfl w) ?_
              simp only [Act.put, List.setIfInBounds_toArray, List.set_cons_zero, List.set_cons_succ]
              refine wl_val (.int .u8 ((BitVec.ofInt 8 (v / 256)).toNat : Int)) rfl (fun w => run_low (k := .u8) rfl rfl rfl Try.underlying2 Try.underlying5 w) ?_
              simp only [Act.put, List.setIfInBounds_toArray, List.set_cons_zero, List.set_cons_succ]
              refine wl_lit (e := 5) #[.int .u8 ((BitVec.ofInt 8 (v / 256)).toNat : Int)] 1 rfl (fun _ => by go_simp) ?_
              intro g23
              simp only [Act.put, List.setIfInBounds_toArray, List.set_cons_zero, List.set_cons_succ]
              refine wl_append (e := 5) (size := 1) (bytes := 1) (m := 1) [⟨g23, #[.int .u8 ((BitVec.ofInt 8 (v / 256)).toNat : Int)], 5⟩, ⟨g21, #[.int .u8 ((BitVec.ofInt 8 (v / 65536)).toNat : Int)], 5⟩, ⟨g19, #[.int .u8 ((BitVec.ofInt 8 (v / 16777216)).toNat : Int)], 5⟩, ⟨g1, #[.int .i64 k, .int .i64 s, .int .i64 v], 43⟩] [] s22 (ys := flat ub ([by8 (v / 256)])) rfl hs22 (sl_lit 0 (L := [by8 (v / 256)]) rfl rfl) (ub_len1 rfl) (flat_one ub_one _) rfl rfl rfl rfl Try.underlying45 (by unfold Elem; kernel_rfl) (by decide) (by unfold maxLen; omega) (by omega) ?_
              intro s24 hs24
              replace hs24 := has_cast (show _ = flat ub (([by8 k, by8 s, 4]) ++ ([by8 (v / 16777216)]) ++ ([by8 (v / 65536)]) ++ ([by8 (v / 256)])) from by rw [flat_append] <;> rfl) hs24
              simp only [List.cons_append, List.nil_append, Act.put, List.setIfInBounds_toArray, List.set_cons_zero, List.set_cons_succ]
              refine wl_val (.slice s24.ptr (3 + 1 + 1 + 1) s24.cap) rfl (fun _ => rfl) ?_
              simp only [Act.put, List.setIfInBounds_toArray, List.set_cons_zero, List.set_cons_succ]
              refine wl_nil ?_
              refine we_in ?_
              refine we_then ?_
              refine wc_region ?_
              refine wl_val (.int .i64 3) rfl (fun w => run_nat (X := 2) (Y := 1) (Z := 3) rfl rfl rfl rfl (by omega) w) ?_
              simp only [Act.put, List.setIfInBounds_toArray, List.set_cons_zero, List.set_cons_succ]
              refine wl_val (.int .i64 3) rfl (fun _ => rfl) ?_
              simp only [Act.put, List.setIfInBounds_toArray, List.set_cons_zero, List.set_cons_succ]
              refine wl_nil ?_
              refine we_round ?_
              refine wr_round ?_
              refine wc_seq ?_
              refine wc_region ?_
              refine wl_val (.bool true) rfl (fun w => run_cmp rfl rfl rfl Try.underlying3 rfl w) ?_
              simp only [Act.put, List.setIfInBounds_toArray, List.set_cons_zero, List.set_cons_succ]
              refine wl_nil ?_
              refine we_then ?_
              refine wc_seq ?_
              refine wc_true rfl ?_
              refine wc_skip ?_
              refine we_then ?_
              refine wc_seq ?_
              refine wc_block ?_
              refine wc_seq ?_
              refine wc_region ?_
              refine wl_val (.int .i64 3) rfl (fun _ => rfl) ?_
              simp only [Act.put, List.setIfInBounds_toArray, List.set_cons_zero, List.set_cons_succ]
              refine wl_val (.int .i64 3) rfl (fun _ => rfl) ?_
              simp only [Act.put, List.setIfInBounds_toArray, List.set_cons_zero, List.set_cons_succ]
              refine wl_nil ?_
              refine we_then ?_
              refine wc_region ?_
              refine wl_val (.slice s24.ptr (3 + 1 + 1 + 1) s24.cap) rfl (fun _ => rfl) ?_
              simp only [Act.put, List.setIfInBounds_toArray, List.set_cons_zero, List.set_cons_succ]
              refine wl_val (.pointer (some ⟨g1, 2, none⟩)) rfl (fun _ => by go_simp) ?_
              simp only [Act.put, List.setIfInBounds_toArray, List.set_cons_zero, List.set_cons_succ]
              refine wl_cell 2 (.tmp 52) (.int .i64 v) (own_row 3 rfl) rfl rfl rfl rfl Try.isAgg2 ?_
              simp only [Act.put, List.setIfInBounds_toArray, List.set_cons_zero, List.set_cons_succ]
              refine wl_val (.int .i64 4) rfl (fun _ => rfl) ?_
              simp only [Act.put, List.setIfInBounds_toArray, List.set_cons_zero, List.set_cons_succ]
              refine wl_val (.int .i64 3) rfl (fun w => run_nat (X := 4) (Y := 1) (Z := 3) rfl rfl rfl rfl (by omega) w) ?_
              simp only [Act.put, List.setIfInBounds_toArray, List.set_cons_zero, List.set_cons_succ]
              refine wl_val (.int .i64 3) rfl (fun _ => rfl) ?_
              simp only [Act.put, List.setIfInBounds_toArray, List.set_cons_zero, List.set_cons_succ]
              refine wl_val (.int .i64 0) rfl (fun w => run_nat (X := 3) (Y := 3) (Z := 0) rfl rfl rfl rfl (by omega) w) ?_
              simp only [Act.put, List.setIfInBounds_toArray, List.set_cons_zero, List.set_cons_succ]
              refine wl_val (.int .i64 0) rfl (fun w => run_nat (X := 8) (Y := 0) (Z := 0) rfl rfl rfl rfl (by omega) w) ?_
              simp only [Act.put, List.setIfInBounds_toArray, List.set_cons_zero, List.set_cons_succ]
              refine wl_val (.int .i64 (v / 1)) rfl (fun w => run_sar 0 1 (by decide) (by decide) rfl rfl rfl w) ?_
              simp only [Act.put, List.setIfInBounds_toArray, List.set_cons_zero, List.set_cons_succ]
              refine wl_val (.int .u8 ((BitVec.ofInt 8 (v / 1)).toNat : Int)) rfl (fun w => run_low (k := .u8) rfl rfl rfl Try.underlying2 Try.underlying5 w) ?_
              simp only [Act.put, List.setIfInBounds_toArray, List.set_cons_zero, List.set_cons_succ]
              refine wl_lit (e := 5) #[.int .u8 ((BitVec.ofInt 8 (v / 1)).toNat : Int)] 1 rfl (fun _ => by go_simp) ?_
              intro g25
              simp only [Act.put, List.setIfInBounds_toArray, List.set_cons_zero, List.set_cons_succ]
              refine wl_append (e := 5) (size := 1) (bytes := 1) (m := 1) [⟨g25, #[.int .u8 ((BitVec.ofInt 8 (v / 1)).toNat : Int)], 5⟩, ⟨g23, #[.int .u8 ((BitVec.ofInt 8 (v / 256)).toNat : Int)], 5⟩, ⟨g21, #[.int .u8 ((BitVec.ofInt 8 (v / 65536)).toNat : Int)], 5⟩, ⟨g19, #[.int .u8 ((BitVec.ofInt 8 (v / 16777216)).toNat : Int)], 5⟩, ⟨g1, #[.int .i64 k, .int .i64 s, .int .i64 v], 43⟩] [] s24 (ys := flat ub ([by8 (v / 1)])) rfl hs24 (sl_lit 0 (L := [by8 (v / 1)]) rfl rfl) (ub_len1 rfl) (flat_one ub_one _) rfl rfl rfl rfl Try.underlying45 (by unfold Elem; kernel_rfl) (by decide) (by unfold maxLen; omega) (by omega) ?_
              intro s26 hs26
              replace hs26 := has_cast (show _ = flat ub (([by8 k, by8 s, 4]) ++ ([by8 (v / 16777216)]) ++ ([by8 (v / 65536)]) ++ ([by8 (v / 256)]) ++ ([by8 (v / 1)])) from by rw [flat_append] <;> rfl) hs26
              simp only [List.cons_append, List.nil_append, Act.put, List.setIfInBounds_toArray, List.set_cons_zero, List.set_cons_succ]
              refine wl_val (.slice s26.ptr (3 + 1 + 1 + 1 + 1) s26.cap) rfl (fun _ => rfl) ?_
              simp only [Act.put, List.setIfInBounds_toArray, List.set_cons_zero, List.set_cons_succ]
              refine wl_nil ?_
              refine we_in ?_
              refine we_then ?_
              refine wc_region ?_
              refine wl_val (.int .i64 4) rfl (fun w => run_nat (X := 3) (Y := 1) (Z := 4) rfl rfl rfl rfl (by omega) w) ?_
              simp only [Act.put, List.setIfInBounds_toArray, List.set_cons_zero, List.set_cons_succ]
              refine wl_val (.int .i64 4) rfl (fun _ => rfl) ?_
              simp only [Act.put, List.setIfInBounds_toArray, List.set_cons_zero, List.set_cons_succ]
              refine wl_nil ?_
              refine we_round ?_
              refine wr_round ?_
              refine wc_seq ?_
              refine wc_region ?_
              refine wl_val (.bool false) rfl (fun w => run_cmp rfl rfl rfl Try.underlying3 rfl w) ?_
              simp only [Act.put, List.setIfInBounds_toArray, List.set_cons_zero, List.set_cons_succ]
              refine wl_nil ?_
              refine we_then ?_
              refine wc_seq ?_
              refine wc_false rfl ?_
              refine wc_exit ?_
              refine we_then_exit ?_
              refine we_then_exit ?_
              refine we_in_here ?_
              refine we_then ?_
              refine wc_seq ?_
              refine wc_region ?_
              refine wl_val (.slice s26.ptr (3 + 1 + 1 + 1 + 1) s26.cap) rfl (fun _ => rfl) ?_
              simp only [Act.put, List.setIfInBounds_toArray, List.set_cons_zero, List.set_cons_succ]
              refine wl_call_env (ι := Nat) 19 #[.slice s26.ptr (3 + 1 + 1 + 1 + 1) s26.cap] (fun g27 => .slice (some ⟨g27, 0, none⟩) (3 + 1 + 1 + 1 + 1 + 2) (3 + 1 + 1 + 1 + 1 + 2)) (fun g27 => [⟨g27, (flat ub (seal_ (([by8 k, by8 s, 4]) ++ ([by8 (v / 16777216)]) ++ ([by8 (v / 65536)]) ++ ([by8 (v / 256)]) ++ ([by8 (v / 1)])))).toArray, 5⟩]) (fun _ => True) rfl (fun _ => by go_simp) (fun W hE => seal_at (([by8 k, by8 s, 4]) ++ ([by8 (v / 16777216)]) ++ ([by8 (v / 65536)]) ++ ([by8 (v / 256)]) ++ ([by8 (v / 1)])) _ _ _ W (app_len (app_len (app_len (app_len rfl rfl) rfl) rfl) rfl) ((sl_own [⟨g25, #[.int .u8 ((BitVec.ofInt 8 (v / 1)).toNat : Int)], 5⟩, ⟨g23, #[.int .u8 ((BitVec.ofInt 8 (v / 256)).toNat : Int)], 5⟩, ⟨g21, #[.int .u8 ((BitVec.ofInt 8 (v / 65536)).toNat : Int)], 5⟩, ⟨g19, #[.int .u8 ((BitVec.ofInt 8 (v / 16777216)).toNat : Int)], 5⟩, ⟨g1, #[.int .i64 k, .int .i64 s, .int .i64 v], 43⟩] [] hs26 rfl) W hE) (by simp)) ?_
              rintro g27 -
              simp only [List.cons_append, List.nil_append, Act.put, List.setIfInBounds_toArray, List.set_cons_zero, List.set_cons_succ]
              refine wl_val (.slice (some ⟨g27, 0, none⟩) (3 + 1 + 1 + 1 + 1 + 2) (3 + 1 + 1 + 1 + 1 + 2)) rfl (fun _ => rfl) ?_
              simp only [Act.put, List.setIfInBounds_toArray, List.set_cons_zero, List.set_cons_succ]
              refine wl_val (.int .i64 0) rfl (fun _ => rfl) ?_
              simp only [Act.put, List.setIfInBounds_toArray, List.set_cons_zero, List.set_cons_succ]
              refine wl_nil ?_
              refine we_then ?_
              refine wc_ret ?_
              refine we_ret2 (.slice (some ⟨g27, 0, none⟩) (3 + 1 + 1 + 1 + 1 + 2) (3 + 1 + 1 + 1 + 1 + 2)) (.int .i64 0) rfl rfl rfl rfl (fun w1 hE => ?_)
              have e1 : seal_ (([by8 k, by8 s, 4]) ++ ([by8 (v / 16777216)]) ++ ([by8 (v / 65536)]) ++ ([by8 (v / 256)]) ++ ([by8 (v / 1)])) = putL k s v := congrArg seal_ (bodyf (by omega) (by omega) (by omega))
              have e2 : (putL k s v).length = (3 + 1 + 1 + 1 + 1 + 2) := by rw [← e1]; rfl
              exact .inl ⟨g27, putE_ok4 (by omega) (by omega) (by omega) (by omega) (by omega), by rw [e2], by rw [← e1]; exact hE.sub (List.Sublist.cons_cons _ (List.Sublist.cons _ (List.Sublist.cons _ (List.Sublist.cons _ (List.Sublist.cons _ (List.Sublist.cons _ (List.sublist_append_of_sublist_right List.Sublist.slnil)))))))⟩
            · skip
              have p17 : 2147483647 < v := of_decide_eq_true h17
              refine wc_true rfl ?_
              refine wc_seq ?_
              refine wc_region ?_
              refine wl_val (.slice none 0 0) rfl (fun _ => rfl) ?_
              simp only [Act.put, List.setIfInBounds_toArray, List.set_cons_zero, List.set_cons_succ]
              refine wl_val (.int .i64 10) rfl (fun _ => rfl) ?_
              simp only [Act.put, List.setIfInBounds_toArray, List.set_cons_zero, List.set_cons_succ]
              refine wl_nil ?_
              refine we_then ?_
              refine wc_ret ?_
              refine we_then_ret ?_
              refine we_ret2 (.slice none 0 0) (.int .i64 10) rfl rfl rfl rfl (fun w1 hE => ?_)
              exact .inr ⟨by rw [putE_bad4 (by omega) (by omega)]; decide, by rw [putE_bad4 (by omega) (by omega)]; rfl, hE.below⟩
          · skip
            have p16 : v < (-2147483648) := of_decide_eq_true h16
            refine wl_skip rfl ?_
            simp only [Act.put, List.setIfInBounds_toArray, List.set_cons_zero, List.set_cons_succ]
            refine wl_skip rfl ?_
            simp only [Act.put, List.setIfInBounds_toArray, List.set_cons_zero, List.set_cons_succ]
            refine wl_skip rfl ?_
            simp only [Act.put, List.setIfInBounds_toArray, List.set_cons_zero, List.set_cons_succ]
            refine wl_skip rfl ?_
            simp only [Act.put, List.setIfInBounds_toArray, List.set_cons_zero, List.set_cons_succ]
            refine wl_val (.bool true) rfl (fun _ => rfl) ?_
            simp only [Act.put, List.setIfInBounds_toArray, List.set_cons_zero, List.set_cons_succ]
            refine wl_nil ?_
            refine we_then ?_
            refine wc_true rfl ?_
            refine wc_seq ?_
            refine wc_region ?_
            refine wl_val (.slice none 0 0) rfl (fun _ => rfl) ?_
            simp only [Act.put, List.setIfInBounds_toArray, List.set_cons_zero, List.set_cons_succ]
            refine wl_val (.int .i64 10) rfl (fun _ => rfl) ?_
            simp only [Act.put, List.setIfInBounds_toArray, List.set_cons_zero, List.set_cons_succ]
            refine wl_nil ?_
            refine we_then ?_
            refine wc_ret ?_
            refine we_then_ret ?_
            refine we_ret2 (.slice none 0 0) (.int .i64 10) rfl rfl rfl rfl (fun w1 hE => ?_)
            exact .inr ⟨by rw [putE_bad4 (by omega) (by omega)]; decide, by rw [putE_bad4 (by omega) (by omega)]; rfl, hE.below⟩
        · skip
          have p15 : 255 < s := of_decide_eq_true h15
          refine wl_skip rfl ?_
          simp only [Act.put, List.setIfInBounds_toArray, List.set_cons_zero, List.set_cons_succ]
          refine wl_skip rfl ?_
          simp only [Act.put, List.setIfInBounds_toArray, List.set_cons_zero, List.set_cons_succ]
          refine wl_skip rfl ?_
          simp only [Act.put, List.setIfInBounds_toArray, List.set_cons_zero, List.set_cons_succ]
          refine wl_skip rfl ?_
          simp only [Act.put, List.setIfInBounds_toArray, List.set_cons_zero, List.set_cons_succ]
          refine wl_val (.bool true) rfl (fun _ => rfl) ?_
          simp only [Act.put, List.setIfInBounds_toArray, List.set_cons_zero, List.set_cons_succ]
          refine wl_val (.bool true) rfl (fun _ => rfl) ?_
          simp only [Act.put, List.setIfInBounds_toArray, List.set_cons_zero, List.set_cons_succ]
          refine wl_skip rfl ?_
          simp only [Act.put, List.setIfInBounds_toArray, List.set_cons_zero, List.set_cons_succ]
          refine wl_skip rfl ?_
          simp only [Act.put, List.setIfInBounds_toArray, List.set_cons_zero, List.set_cons_succ]
          refine wl_skip rfl ?_
          simp only [Act.put, List.setIfInBounds_toArray, List.set_cons_zero, List.set_cons_succ]
          refine wl_skip rfl ?_
          simp only [Act.put, List.setIfInBounds_toArray, List.set_cons_zero, List.set_cons_succ]
          refine wl_val (.bool true) rfl (fun _ => rfl) ?_
          simp only [Act.put, List.setIfInBounds_toArray, List.set_cons_zero, List.set_cons_succ]
          refine wl_nil ?_
          refine we_then ?_
          refine wc_true rfl ?_
          refine wc_seq ?_
          refine wc_region ?_
          refine wl_val (.slice none 0 0) rfl (fun _ => rfl) ?_
          simp only [Act.put, List.setIfInBounds_toArray, List.set_cons_zero, List.set_cons_succ]
          refine wl_val (.int .i64 10) rfl (fun _ => rfl) ?_
          simp only [Act.put, List.setIfInBounds_toArray, List.set_cons_zero, List.set_cons_succ]
          refine wl_nil ?_
          refine we_then ?_
          refine wc_ret ?_
          refine we_then_ret ?_
          refine we_ret2 (.slice none 0 0) (.int .i64 10) rfl rfl rfl rfl (fun w1 hE => ?_)
          exact .inr ⟨by rw [putE_bad4 (by omega) (by omega)]; decide, by rw [putE_bad4 (by omega) (by omega)]; rfl, hE.below⟩
      · skip
        have p14 : s < 0 := of_decide_eq_true h14
        refine wl_skip rfl ?_
        simp only [Act.put, List.setIfInBounds_toArray, List.set_cons_zero, List.set_cons_succ]
        refine wl_skip rfl ?_
        simp only [Act.put, List.setIfInBounds_toArray, List.set_cons_zero, List.set_cons_succ]
        refine wl_skip rfl ?_
        simp only [Act.put, List.setIfInBounds_toArray, List.set_cons_zero, List.set_cons_succ]
        refine wl_val (.bool true) rfl (fun _ => rfl) ?_
        simp only [Act.put, List.setIfInBounds_toArray, List.set_cons_zero, List.set_cons_succ]
        refine wl_val (.bool true) rfl (fun _ => rfl) ?_
        simp only [Act.put, List.setIfInBounds_toArray, List.set_cons_zero, List.set_cons_succ]
        refine wl_skip rfl ?_
        simp only [Act.put, List.setIfInBounds_toArray, List.set_cons_zero, List.set_cons_succ]
        refine wl_skip rfl ?_
        simp only [Act.put, List.setIfInBounds_toArray, List.set_cons_zero, List.set_cons_succ]
        refine wl_skip rfl ?_
        simp only [Act.put, List.setIfInBounds_toArray, List.set_cons_zero, List.set_cons_succ]
        refine wl_skip rfl ?_
        simp only [Act.put, List.setIfInBounds_toArray, List.set_cons_zero, List.set_cons_succ]
        refine wl_val (.bool true) rfl (fun _ => rfl) ?_
        simp only [Act.put, List.setIfInBounds_toArray, List.set_cons_zero, List.set_cons_succ]
        refine wl_val (.bool true) rfl (fun _ => rfl) ?_
        simp only [Act.put, List.setIfInBounds_toArray, List.set_cons_zero, List.set_cons_succ]
        refine wl_skip rfl ?_
        simp only [Act.put, List.setIfInBounds_toArray, List.set_cons_zero, List.set_cons_succ]
        refine wl_skip rfl ?_
        simp only [Act.put, List.setIfInBounds_toArray, List.set_cons_zero, List.set_cons_succ]
        refine wl_skip rfl ?_
        simp only [Act.put, List.setIfInBounds_toArray, List.set_cons_zero, List.set_cons_succ]
        refine wl_skip rfl ?_
        simp only [Act.put, List.setIfInBounds_toArray, List.set_cons_zero, List.set_cons_succ]
        refine wl_val (.bool true) rfl (fun _ => rfl) ?_
        simp only [Act.put, List.setIfInBounds_toArray, List.set_cons_zero, List.set_cons_succ]
        refine wl_nil ?_
        refine we_then ?_
        refine wc_true rfl ?_
        refine wc_seq ?_
        refine wc_region ?_
        refine wl_val (.slice none 0 0) rfl (fun _ => rfl) ?_
        simp only [Act.put, List.setIfInBounds_toArray, List.set_cons_zero, List.set_cons_succ]
        refine wl_val (.int .i64 10) rfl (fun _ => rfl) ?_
        simp only [Act.put, List.setIfInBounds_toArray, List.set_cons_zero, List.set_cons_succ]
        refine wl_nil ?_
        refine we_then ?_
        refine wc_ret ?_
        refine we_then_ret ?_
        refine we_ret2 (.slice none 0 0) (.int .i64 10) rfl rfl rfl rfl (fun w1 hE => ?_)
        exact .inr ⟨by rw [putE_bad4 (by omega) (by omega)]; decide, by rw [putE_bad4 (by omega) (by omega)]; rfl, hE.below⟩
  · skip
    have p2 : ksize k = 0 := by simpa using h2
    refine wl_call 18 #[.int .i64 k] (.tuple #[.int .i64 0, .int .i64 0, .int .i64 0]) rfl (fun _ => by go_simp) (fun W => values_none k (by omega) W) ?_
    simp only [Act.put, List.setIfInBounds_toArray, List.set_cons_zero, List.set_cons_succ]
    refine wl_val (.tuple #[.int .i64 0, .int .i64 0, .int .i64 0]) rfl (fun _ => rfl) ?_
    simp only [Act.put, List.setIfInBounds_toArray, List.set_cons_zero, List.set_cons_succ]
    refine wl_val (.int .i64 0) rfl (fun _ => by go_simp) ?_
    simp only [Act.put, List.setIfInBounds_toArray, List.set_cons_zero, List.set_cons_succ]
    refine wl_val (.int .i64 0) rfl (fun _ => by go_simp) ?_
    simp only [Act.put, List.setIfInBounds_toArray, List.set_cons_zero, List.set_cons_succ]
    refine wl_val (.int .i64 0) rfl (fun _ => by go_simp) ?_
    simp only [Act.put, List.setIfInBounds_toArray, List.set_cons_zero, List.set_cons_succ]
    refine wl_val (.int .i64 0) rfl (fun _ => rfl) ?_
    simp only [Act.put, List.setIfInBounds_toArray, List.set_cons_zero, List.set_cons_succ]
    refine wl_val (.int .i64 0) rfl (fun _ => rfl) ?_
    simp only [Act.put, List.setIfInBounds_toArray, List.set_cons_zero, List.set_cons_succ]
    refine wl_val (.int .i64 0) rfl (fun _ => rfl) ?_
    simp only [Act.put, List.setIfInBounds_toArray, List.set_cons_zero, List.set_cons_succ]
    refine wl_nil ?_
    refine we_then ?_
    refine wc_seq ?_
    refine wc_seq ?_
    refine wc_region ?_
    refine wl_val (.int .i64 0) rfl (fun _ => rfl) ?_
    simp only [Act.put, List.setIfInBounds_toArray, List.set_cons_zero, List.set_cons_succ]
    refine wl_val (.bool true) rfl (fun w => run_cmp rfl rfl rfl Try.underlying3 rfl w) ?_
    simp only [Act.put, List.setIfInBounds_toArray, List.set_cons_zero, List.set_cons_succ]
    refine wl_nil ?_
    refine we_then ?_
    refine wc_true rfl ?_
    refine wc_seq ?_
    refine wc_region ?_
    refine wl_val (.slice none 0 0) rfl (fun _ => rfl) ?_
    simp only [Act.put, List.setIfInBounds_toArray, List.set_cons_zero, List.set_cons_succ]
    refine wl_val (.int .i64 30) rfl (fun _ => rfl) ?_
    simp only [Act.put, List.setIfInBounds_toArray, List.set_cons_zero, List.set_cons_succ]
    refine wl_nil ?_
    refine we_then ?_
    refine wc_ret ?_
    refine we_then_ret ?_
    refine we_ret2 (.slice none 0 0) (.int .i64 30) rfl rfl rfl rfl (fun w1 hE => ?_)
    exact .inr ⟨by rw [putE_kind (by omega)]; decide, by rw [putE_kind (by omega)]; rfl, hE.below⟩
theorem open_yes (L : List UInt8) (p : Option Addr) (c : Nat) (w : World) (hL : Reads w p (flat ub L)) (hn : L.length ≤ 1000000) (hc : L.length ≤ c) (h : opens L = true) :
    Calls Try.prog 20 #[.slice p L.length c] w fun e w' => ∃ g : Nat, True ∧ e = .returned (.tuple #[.slice (some ⟨g, 0, none⟩) (L.length - 2) (L.length - 2), .bool true]) ∧ Env w w' [⟨g, (flat ub (L.take (L.length - 2))).toArray, 5⟩] := by
  refine (open_any L p c w hL hn hc).mono ?_
  rintro e w' (⟨g, _, h1, h2⟩ | ⟨h1, _⟩)
  · exact ⟨g, trivial, h1, h2⟩
  · rw [h] at h1; cases h1
theorem open_no (L : List UInt8) (p : Option Addr) (c : Nat) (w : World) (hL : Reads w p (flat ub L)) (hn : L.length ≤ 1000000) (hc : L.length ≤ c) (h : opens L = false) :
    Calls Try.prog 20 #[.slice p L.length c] w fun e w' => e = .returned (.tuple #[.slice none 0 0, .bool false]) ∧ Below w.heap.size w w' := by
  refine (open_any L p c w hL hn hc).mono ?_
  rintro e w' (⟨g, h1, _⟩ | ⟨_, h1, h2⟩)
  · rw [h] at h1; cases h1
  · exact ⟨h1, h2⟩
theorem get_short {L : List UInt8} (h : L.length < 5) : getE L = 14 := by unfold getE; rw [if_pos h]
theorem get_kind {L : List UInt8} (h5 : ¬ L.length < 5) (h : ksize (hd L) = 0) : getE L = 30 := by unfold getE; rw [if_neg h5, if_pos h]
theorem get_form {L : List UInt8} (h5 : ¬ L.length < 5) (h0 : ksize (hd L) ≠ 0) (h : (L[2]!).toNat ≠ ksize (hd L) ∨ L.length ≠ 5 + ksize (hd L)) : getE L = 11 := by unfold getE; rw [if_neg h5, if_neg h0, if_pos h]
theorem get_sum {L : List UInt8} (h5 : ¬ L.length < 5) (h0 : ksize (hd L) ≠ 0) (h2 : (L[2]!).toNat = ksize (hd L)) (hl : L.length = 5 + ksize (hd L)) (h : opens L = false) : getE L = 31 := by unfold getE; rw [if_neg h5, if_neg h0, if_neg (by omega), h]; rfl
theorem get_good {L : List UInt8} (h5 : ¬ L.length < 5) (h0 : ksize (hd L) ≠ 0) (h2 : (L[2]!).toNat = ksize (hd L)) (hl : L.length = 5 + ksize (hd L)) (h : opens L = true) : getE L = 0 := by unfold getE; rw [if_neg h5, if_neg h0, if_neg (by omega), h]; rfl
theorem getF_no {L : List UInt8} {n : Nat} (h : getE L = n) (hn : n ≠ 0) : getF L = (0, 0, 0) := by unfold getF; rw [if_neg (by omega)]
theorem getF_yes {L : List UInt8} (h : getE L = 0) : getF L = (hd L, ((L[1]!).toNat : Int), getV L) := by unfold getF; rw [if_pos h]
def nat4 (L : List UInt8) : Nat := (((0 * 256 + ((L.take (L.length - 2))[3]!).toNat) * 256 + ((L.take (L.length - 2))[4]!).toNat) * 256 + ((L.take (L.length - 2))[5]!).toNat) * 256 + ((L.take (L.length - 2))[6]!).toNat
def nat2 (L : List UInt8) : Nat := (0 * 256 + ((L.take (L.length - 2))[3]!).toNat) * 256 + ((L.take (L.length - 2))[4]!).toNat
theorem getV4 {L : List UInt8} (hl : L.length = 9) (hk : ksize (hd L) = 4) : getV L = low 4 (nat4 L) := by
  unfold getV
  rw [hk]
  obtain ⟨a, b, c, d, x, y, z, f, g, rfl⟩ := list9 hl
  show low 4 (256 * (256 * (256 * (256 * 0 + d.toNat) + x.toNat) + y.toNat) + z.toNat) = low 4 ((((0 * 256 + d.toNat) * 256 + x.toNat) * 256 + y.toNat) * 256 + z.toNat)
  congr 1
  omega
theorem getV2 {L : List UInt8} (hl : L.length = 7) (hk : ksize (hd L) = 2) : getV L = (nat2 L : Int) := by
  unfold getV
  rw [hk]
  obtain ⟨a, b, c, d, x, f, g, rfl⟩ := list7 hl
  show low 2 (256 * (256 * 0 + d.toNat) + x.toNat) = (((0 * 256 + d.toNat) * 256 + x.toNat : Nat) : Int)
  unfold low
  rw [if_neg (by omega)]
  omega
set_option maxHeartbeats 2000000 in
theorem get_any (L : List UInt8) (p : Option Addr) (c : Nat) (w : World) (hL : Reads w p (flat ub L)) (hn : L.length ≤ 1000000) (hc : L.length ≤ c) :
    Calls Try.prog 16 #[.slice p L.length c] w fun e w' => e = .returned (.tuple #[.agg #[.int .i64 (getF L).1, .int .i64 (getF L).2.1, .int .i64 (getF L).2.2], .int .i64 ((getE L : Nat) : Int)]) ∧ Below w.heap.size w w' := by
  have k3 := ksize_three (hd L)
  have tl : (L.take (L.length - 2)).length = L.length - 2 := by rw [List.length_take]; omega
  refine calls_sx Try.func16 rfl ?_
  simp only [Try.ntmps16, List.size_toArray, List.length_cons, List.length_nil, Nat.reduceAdd, Nat.reduceSub, Array.replicate_succ, Array.replicate_zero, List.push_toArray, List.append_toArray, List.nil_append, List.cons_append]
  refine wc_seq ?_
  refine wc_region ?_
  refine wl_new 43 (#[.int .i64 0, .int .i64 0, .int .i64 0]) rfl (fun _ => by go_simp) ?_
  intro g1
  simp only [Act.put, List.setIfInBounds_toArray, List.set_cons_zero, List.set_cons_succ]
  refine wl_val (.int .i64 0) rfl (fun _ => rfl) ?_
  simp only [Act.put, List.setIfInBounds_toArray, List.set_cons_zero, List.set_cons_succ]
  refine wl_nil ?_
  refine we_then ?_
  refine wc_seq ?_
  refine wc_seq ?_
  refine wc_region ?_
  refine wl_val (.slice p L.length c) rfl (fun _ => rfl) ?_
  simp only [Act.put, List.setIfInBounds_toArray, List.set_cons_zero, List.set_cons_succ]
  refine wl_val (.int .i64 (L.length : Int)) rfl (fun w => er_len rfl rfl Try.underlying45 w) ?_
  simp only [Act.put, List.setIfInBounds_toArray, List.set_cons_zero, List.set_cons_succ]
  refine wl_val (.bool (decide ((L.length : Int) < 5))) rfl (fun w => run_cmp rfl rfl rfl Try.underlying3 rfl w) ?_
  simp only [Act.put, List.setIfInBounds_toArray, List.set_cons_zero, List.set_cons_succ]
  refine wl_nil ?_
  refine we_then ?_
  cases h2 : (decide ((L.length : Int) < 5))
  · skip
    have p2 : ¬ ((L.length : Int) < 5) := of_decide_eq_false h2
    refine wc_false rfl ?_
    refine wc_skip ?_
    refine we_then ?_
    refine wc_seq ?_
    refine wc_region ?_
    refine wl_val (.slice p L.length c) rfl (fun _ => rfl) ?_
    simp only [Act.put, List.setIfInBounds_toArray, List.set_cons_zero, List.set_cons_succ]
    refine wl_read (eaddr p (0 * 1)) rfl (er_index 0 1 (sl_old hL) rfl rfl rfl rfl (by omega) (ub_len1 rfl) (by decide) Try.underlying45 (by kernel_rfl)) ?_
    simp only [Act.put, List.setIfInBounds_toArray, List.set_cons_zero, List.set_cons_succ]
    refine wl_read (.int .u8 ((L[0]!).toNat : Int)) rfl (er_cell (0 * 1) (.int .u8 ((L[0]!).toNat : Int)) (sl_old hL) rfl rfl (flat_cell (enc := ub) (fun _ => rfl) L 0 0 (by omega) (by decide)) Try.isAgg5) ?_
    simp only [Act.put, List.setIfInBounds_toArray, List.set_cons_zero, List.set_cons_succ]
    have q3 : (L[0]!).toNat < 256 := ((L[0]!).toBitVec).isLt
    refine wl_val (.int .i64 (((L[0]!).toNat : Nat) : Int)) rfl (fun w => run_conv (X := ((L[0]!).toNat : Int)) rfl rfl Try.underlying5 Try.underlying3 (i64_in (by omega) (by omega)) w) ?_
    simp only [Act.put, List.setIfInBounds_toArray, List.set_cons_zero, List.set_cons_succ]
    refine wl_val (.int .i64 (((L[0]!).toNat : Nat) : Int)) rfl (fun _ => rfl) ?_
    simp only [Act.put, List.setIfInBounds_toArray, List.set_cons_zero, List.set_cons_succ]
    refine wl_nil ?_
    refine we_then ?_
    refine wc_seq ?_
    refine wc_region ?_
    refine wl_val (.int .i64 (((L[0]!).toNat : Nat) : Int)) rfl (fun _ => rfl) ?_
    simp only [Act.put, List.setIfInBounds_toArray, List.set_cons_zero, List.set_cons_succ]
    cases h4 : (ksize (hd L) == 0)
    · skip
      have p4 : ¬ (ksize (hd L) = 0) := by simpa using h4
      cases h5 : (ksize (hd L) == 4)
      · skip
        have p5 : ¬ (ksize (hd L) = 4) := by simpa using h5
        refine wl_call 18 #[.int .i64 (((L[0]!).toNat : Nat) : Int)] (.tuple #[.int .i64 2, .int .i64 0, .int .i64 65535]) rfl (fun _ => by go_simp) (fun W => values_two (hd L) (by omega) W) ?_
        simp only [Act.put, List.setIfInBounds_toArray, List.set_cons_zero, List.set_cons_succ]
        refine wl_val (.tuple #[.int .i64 2, .int .i64 0, .int .i64 65535]) rfl (fun _ => rfl) ?_
        simp only [Act.put, List.setIfInBounds_toArray, List.set_cons_zero, List.set_cons_succ]
        refine wl_val (.int .i64 2) rfl (fun _ => by go_simp) ?_
        simp only [Act.put, List.setIfInBounds_toArray, List.set_cons_zero, List.set_cons_succ]
        refine wl_val (.int .i64 0) rfl (fun _ => by go_simp) ?_
        simp only [Act.put, List.setIfInBounds_toArray, List.set_cons_zero, List.set_cons_succ]
        refine wl_val (.int .i64 65535) rfl (fun _ => by go_simp) ?_
        simp only [Act.put, List.setIfInBounds_toArray, List.set_cons_zero, List.set_cons_succ]
        refine wl_val (.int .i64 2) rfl (fun _ => rfl) ?_
        simp only [Act.put, List.setIfInBounds_toArray, List.set_cons_zero, List.set_cons_succ]
        refine wl_val (.int .i64 0) rfl (fun _ => rfl) ?_
        simp only [Act.put, List.setIfInBounds_toArray, List.set_cons_zero, List.set_cons_succ]
        refine wl_val (.int .i64 65535) rfl (fun _ => rfl) ?_
        simp only [Act.put, List.setIfInBounds_toArray, List.set_cons_zero, List.set_cons_succ]
        refine wl_nil ?_
        refine we_then ?_
        refine wc_seq ?_
        refine wc_seq ?_
        refine wc_region ?_
        refine wl_val (.int .i64 2) rfl (fun _ => rfl) ?_
        simp only [Act.put, List.setIfInBounds_toArray, List.set_cons_zero, List.set_cons_succ]
        refine wl_val (.bool false) rfl (fun w => run_cmp rfl rfl rfl Try.underlying3 rfl w) ?_
        simp only [Act.put, List.setIfInBounds_toArray, List.set_cons_zero, List.set_cons_succ]
        refine wl_nil ?_
        refine we_then ?_
        refine wc_false rfl ?_
        refine wc_skip ?_
        refine we_then ?_
        refine wc_seq ?_
        refine wc_seq ?_
        refine wc_region ?_
        refine wl_val (.slice p L.length c) rfl (fun _ => rfl) ?_
        simp only [Act.put, List.setIfInBounds_toArray, List.set_cons_zero, List.set_cons_succ]
        refine wl_read (eaddr p (2 * 1)) rfl (er_index 2 1 (sl_old hL) rfl rfl rfl rfl (by omega) (ub_len1 rfl) (by decide) Try.underlying45 (by kernel_rfl)) ?_
        simp only [Act.put, List.setIfInBounds_toArray, List.set_cons_zero, List.set_cons_succ]
        refine wl_read (.int .u8 ((L[2]!).toNat : Int)) rfl (er_cell (2 * 1) (.int .u8 ((L[2]!).toNat : Int)) (sl_old hL) rfl rfl (flat_cell (enc := ub) (fun _ => rfl) L 2 0 (by omega) (by decide)) Try.isAgg5) ?_
        simp only [Act.put, List.setIfInBounds_toArray, List.set_cons_zero, List.set_cons_succ]
        have q6 : (L[2]!).toNat < 256 := ((L[2]!).toBitVec).isLt
        refine wl_val (.int .i64 (((L[2]!).toNat : Nat) : Int)) rfl (fun w => run_conv (X := ((L[2]!).toNat : Int)) rfl rfl Try.underlying5 Try.underlying3 (i64_in (by omega) (by omega)) w) ?_
        simp only [Act.put, List.setIfInBounds_toArray, List.set_cons_zero, List.set_cons_succ]
        refine wl_val (.int .i64 2) rfl (fun _ => rfl) ?_
        simp only [Act.put, List.setIfInBounds_toArray, List.set_cons_zero, List.set_cons_succ]
        refine wl_val (.bool ((((L[2]!).toNat : Nat) : Int) != 2)) rfl (fun w => run_cmp rfl rfl rfl Try.underlying3 rfl w) ?_
        simp only [Act.put, List.setIfInBounds_toArray, List.set_cons_zero, List.set_cons_succ]
        refine wl_val (.bool ((((L[2]!).toNat : Nat) : Int) != 2)) rfl (fun _ => rfl) ?_
        simp only [Act.put, List.setIfInBounds_toArray, List.set_cons_zero, List.set_cons_succ]
        cases h7 : ((((L[2]!).toNat : Nat) : Int) != 2)
        · skip
          have p7 : ¬ ((((L[2]!).toNat : Nat) : Int) ≠ 2) := by simpa using h7
          refine wl_val (.slice p L.length c) rfl (fun _ => rfl) ?_
          simp only [Act.put, List.setIfInBounds_toArray, List.set_cons_zero, List.set_cons_succ]
          refine wl_val (.int .i64 (L.length : Int)) rfl (fun w => er_len rfl rfl Try.underlying45 w) ?_
          simp only [Act.put, List.setIfInBounds_toArray, List.set_cons_zero, List.set_cons_succ]
          refine wl_val (.int .i64 2) rfl (fun _ => rfl) ?_
          simp only [Act.put, List.setIfInBounds_toArray, List.set_cons_zero, List.set_cons_succ]
          refine wl_val (.int .i64 7) rfl (fun w => run_nat (X := 5) (Y := 2) (Z := 7) rfl rfl rfl rfl (by omega) w) ?_
          simp only [Act.put, List.setIfInBounds_toArray, List.set_cons_zero, List.set_cons_succ]
          refine wl_val (.bool ((L.length : Int) != 7)) rfl (fun w => run_cmp rfl rfl rfl Try.underlying3 rfl w) ?_
          simp only [Act.put, List.setIfInBounds_toArray, List.set_cons_zero, List.set_cons_succ]
          refine wl_val (.bool ((L.length : Int) != 7)) rfl (fun _ => rfl) ?_
          simp only [Act.put, List.setIfInBounds_toArray, List.set_cons_zero, List.set_cons_succ]
          refine wl_nil ?_
          refine we_then ?_
          cases h8 : ((L.length : Int) != 7)
          · skip
            have p8 : ¬ ((L.length : Int) ≠ 7) := by simpa using h8
            refine wc_false rfl ?_
            refine wc_skip ?_
            refine we_then ?_
            refine wc_seq ?_
            refine wc_region ?_
            refine wl_val (.slice p L.length c) rfl (fun _ => rfl) ?_
            simp only [Act.put, List.setIfInBounds_toArray, List.set_cons_zero, List.set_cons_succ]
            cases h9 : (opens L)
            · skip
              refine wl_call_at 20 #[.slice p L.length c] (.tuple #[.slice none 0 0, .bool false]) rfl (fun _ => by go_simp) (fun W hE => open_no L p c W (sl_old (R := []) hL W (hE.sub (List.nil_sublist _))) (by omega) hc h9) ?_
              simp only [Act.put, List.setIfInBounds_toArray, List.set_cons_zero, List.set_cons_succ]
              refine wl_val (.tuple #[.slice none 0 0, .bool false]) rfl (fun _ => rfl) ?_
              simp only [Act.put, List.setIfInBounds_toArray, List.set_cons_zero, List.set_cons_succ]
              refine wl_val (.slice none 0 0) rfl (fun _ => by go_simp) ?_
              simp only [Act.put, List.setIfInBounds_toArray, List.set_cons_zero, List.set_cons_succ]
              refine wl_val (.bool false) rfl (fun _ => by go_simp) ?_
              simp only [Act.put, List.setIfInBounds_toArray, List.set_cons_zero, List.set_cons_succ]
              refine wl_val (.slice none 0 0) rfl (fun _ => rfl) ?_
              simp only [Act.put, List.setIfInBounds_toArray, List.set_cons_zero, List.set_cons_succ]
              refine wl_val (.bool false) rfl (fun _ => rfl) ?_
              simp only [Act.put, List.setIfInBounds_toArray, List.set_cons_zero, List.set_cons_succ]
              refine wl_nil ?_
              refine we_then ?_
              refine wc_seq ?_
              refine wc_seq ?_
              refine wc_region ?_
              refine wl_val (.bool false) rfl (fun _ => rfl) ?_
              simp only [Act.put, List.setIfInBounds_toArray, List.set_cons_zero, List.set_cons_succ]
              refine wl_val (.bool true) rfl (fun _ => by go_simp) ?_
              simp only [Act.put, List.setIfInBounds_toArray, List.set_cons_zero, List.set_cons_succ]
              refine wl_nil ?_
              refine we_then ?_
              refine wc_true rfl ?_
              refine wc_seq ?_
              refine wc_region ?_
              refine wl_val (.agg #[.int .i64 0, .int .i64 0, .int .i64 0]) rfl (fun _ => by go_simp) ?_
              simp only [Act.put, List.setIfInBounds_toArray, List.set_cons_zero, List.set_cons_succ]
              refine wl_store 0 43 (.tmp 2) (.tmp 50) (#[.int .i64 0, .int .i64 0, .int .i64 0]) rfl rfl rfl rfl rfl (by kernel_rfl) rfl (by simp [Value.oneCell']) ?_
              simp only [Act.put, List.set_cons_zero]
              refine wl_val (.int .i64 31) rfl (fun _ => rfl) ?_
              simp only [Act.put, List.setIfInBounds_toArray, List.set_cons_zero, List.set_cons_succ]
              refine wl_nil ?_
              refine we_then ?_
              refine wc_ret ?_
              refine we_then_ret ?_
              refine we_ret_cell_tmp (.int .i64 31) (own_row 0 rfl) rfl rfl rfl rfl Try.underlying43 rfl (by kernel_rfl) (fun w1 hE => ?_)
              have e1 := get_sum (L := L) (by omega) (by omega) (by omega) (by omega) h9
              exact ⟨by rw [getF_no e1 (by decide), e1]; rfl, hE.below⟩
            · skip
              refine wl_call_env (ι := Nat) 20 #[.slice p L.length c] (fun g10 => .tuple #[.slice (some ⟨g10, 0, none⟩) (L.length - 2) (L.length - 2), .bool true]) (fun g10 => [⟨g10, (flat ub (L.take (L.length - 2))).toArray, 5⟩]) (fun _ => True) rfl (fun _ => by go_simp) (fun W hE => open_yes L p c W (sl_old (R := []) hL W (hE.sub (List.nil_sublist _))) (by omega) hc h9) ?_
              rintro g10 -
              simp only [List.cons_append, List.nil_append, Act.put, List.setIfInBounds_toArray, List.set_cons_zero, List.set_cons_succ]
              refine wl_val (.tuple #[.slice (some ⟨g10, 0, none⟩) (L.length - 2) (L.length - 2), .bool true]) rfl (fun _ => rfl) ?_
              simp only [Act.put, List.setIfInBounds_toArray, List.set_cons_zero, List.set_cons_succ]
              refine wl_val (.slice (some ⟨g10, 0, none⟩) (L.length - 2) (L.length - 2)) rfl (fun _ => by go_simp) ?_
              simp only [Act.put, List.setIfInBounds_toArray, List.set_cons_zero, List.set_cons_succ]
              refine wl_val (.bool true) rfl (fun _ => by go_simp) ?_
              simp only [Act.put, List.setIfInBounds_toArray, List.set_cons_zero, List.set_cons_succ]
              refine wl_val (.slice (some ⟨g10, 0, none⟩) (L.length - 2) (L.length - 2)) rfl (fun _ => rfl) ?_
              simp only [Act.put, List.setIfInBounds_toArray, List.set_cons_zero, List.set_cons_succ]
              refine wl_val (.bool true) rfl (fun _ => rfl) ?_
              simp only [Act.put, List.setIfInBounds_toArray, List.set_cons_zero, List.set_cons_succ]
              refine wl_nil ?_
              refine we_then ?_
              refine wc_seq ?_
              refine wc_seq ?_
              refine wc_region ?_
              refine wl_val (.bool true) rfl (fun _ => rfl) ?_
              simp only [Act.put, List.setIfInBounds_toArray, List.set_cons_zero, List.set_cons_succ]
              refine wl_val (.bool false) rfl (fun _ => by go_simp) ?_
              simp only [Act.put, List.setIfInBounds_toArray, List.set_cons_zero, List.set_cons_succ]
              refine wl_nil ?_
              refine we_then ?_
              refine wc_false rfl ?_
              refine wc_skip ?_
              refine we_then ?_
              refine wc_seq ?_
              refine wc_region ?_
              refine wl_val (.int .i64 0) rfl (fun _ => rfl) ?_
              simp only [Act.put, List.setIfInBounds_toArray, List.set_cons_zero, List.set_cons_succ]
              refine wl_nil ?_
              refine we_then ?_
              refine wc_seq ?_
              refine wc_seq ?_
              refine wc_region ?_
              refine wl_val (.int .i64 2) rfl (fun _ => rfl) ?_
              simp only [Act.put, List.setIfInBounds_toArray, List.set_cons_zero, List.set_cons_succ]
              refine wl_val (.int .i64 0) rfl (fun _ => rfl) ?_
              simp only [Act.put, List.setIfInBounds_toArray, List.set_cons_zero, List.set_cons_succ]
              refine wl_nil ?_
              refine we_then ?_
              refine wc_block ?_
              refine wr_start 5 ?_
              refine wr_round ?_
              refine wc_seq ?_
              refine wc_region ?_
              refine wl_val (.bool true) rfl (fun w => run_cmp rfl rfl rfl Try.underlying3 rfl w) ?_
              simp only [Act.put, List.setIfInBounds_toArray, List.set_cons_zero, List.set_cons_succ]
              refine wl_nil ?_
              refine we_then ?_
              refine wc_seq ?_
              refine wc_true rfl ?_
              refine wc_skip ?_
              refine we_then ?_
              refine wc_seq ?_
              refine wc_block ?_
              refine wc_seq ?_
              refine wc_region ?_
              refine wl_val (.int .i64 0) rfl (fun _ => rfl) ?_
              simp only [Act.put, List.setIfInBounds_toArray, List.set_cons_zero, List.set_cons_succ]
              refine wl_val (.int .i64 0) rfl (fun _ => rfl) ?_
              simp only [Act.put, List.setIfInBounds_toArray, List.set_cons_zero, List.set_cons_succ]
              refine wl_nil ?_
              refine we_then ?_
              refine wc_region ?_
              refine wl_val (.int .i64 0) rfl (fun _ => rfl) ?_
              simp only [Act.put, List.setIfInBounds_toArray, List.set_cons_zero, List.set_cons_succ]
              refine wl_val (.int .i64 ((0 * 256 : Nat) : Int)) rfl (fun w => run_sal (X := 0) 8 256 (by decide) (by decide) (by omega) rfl rfl rfl w) ?_
              simp only [Act.put, List.setIfInBounds_toArray, List.set_cons_zero, List.set_cons_succ]
              refine wl_val (.slice (some ⟨g10, 0, none⟩) (L.length - 2) (L.length - 2)) rfl (fun _ => rfl) ?_
              simp only [Act.put, List.setIfInBounds_toArray, List.set_cons_zero, List.set_cons_succ]
              refine wl_val (.int .i64 0) rfl (fun _ => rfl) ?_
              simp only [Act.put, List.setIfInBounds_toArray, List.set_cons_zero, List.set_cons_succ]
              refine wl_val (.int .i64 3) rfl (fun w => run_nat (X := 3) (Y := 0) (Z := 3) rfl rfl rfl rfl (by omega) w) ?_
              simp only [Act.put, List.setIfInBounds_toArray, List.set_cons_zero, List.set_cons_succ]
              refine wl_read (eaddr (some ⟨g10, 0, none⟩) (3 * 1)) rfl (er_index 3 1 (sl_mk 0 (L := L.take (L.length - 2)) rfl) rfl rfl rfl rfl (by omega) (ub_len1 (ub_take_len rfl (by omega))) (by decide) Try.underlying45 (by kernel_rfl)) ?_
              simp only [Act.put, List.setIfInBounds_toArray, List.set_cons_zero, List.set_cons_succ]
              refine wl_read (.int .u8 (((L.take (L.length - 2))[3]!).toNat : Int)) rfl (er_cell (3 * 1) (.int .u8 (((L.take (L.length - 2))[3]!).toNat : Int)) (sl_mk 0 (L := L.take (L.length - 2)) rfl) rfl rfl (flat_cell (enc := ub) (fun _ => rfl) (L.take (L.length - 2)) 3 0 (by omega) (by decide)) Try.isAgg5) ?_
              simp only [Act.put, List.setIfInBounds_toArray, List.set_cons_zero, List.set_cons_succ]
              have q11 : ((L.take (L.length - 2))[3]!).toNat < 256 := (((L.take (L.length - 2))[3]!).toBitVec).isLt
              refine wl_val (.int .i64 ((((L.take (L.length - 2))[3]!).toNat : Nat) : Int)) rfl (fun w => run_conv (X := (((L.take (L.length - 2))[3]!).toNat : Int)) rfl rfl Try.underlying5 Try.underlying2 (i64_in (by omega) (by omega)) w) ?_
              simp only [Act.put, List.setIfInBounds_toArray, List.set_cons_zero, List.set_cons_succ]
              refine wl_val (.int .i64 ((0 * 256 + (((L.take (L.length - 2))[3]!).toNat) : Nat) : Int)) rfl (fun w => run_orn (X := 0 * 256) (Y := ((L.take (L.length - 2))[3]!).toNat) (or_byte 0 (((L.take (L.length - 2))[3]!).toNat) (by omega)) (by omega) (by omega) rfl rfl rfl w) ?_
              simp only [Act.put, List.setIfInBounds_toArray, List.set_cons_zero, List.set_cons_succ]
              refine wl_val (.int .i64 ((0 * 256 + (((L.take (L.length - 2))[3]!).toNat) : Nat) : Int)) rfl (fun _ => rfl) ?_
              simp only [Act.put, List.setIfInBounds_toArray, List.set_cons_zero, List.set_cons_succ]
              refine wl_nil ?_
              refine we_in ?_
              refine we_then ?_
              refine wc_region ?_
              refine wl_val (.int .i64 1) rfl (fun w => run_nat (X := 0) (Y := 1) (Z := 1) rfl rfl rfl rfl (by omega) w) ?_
              simp only [Act.put, List.setIfInBounds_toArray, List.set_cons_zero, List.set_cons_succ]
              refine wl_val (.int .i64 1) rfl (fun _ => rfl) ?_
              simp only [Act.put, List.setIfInBounds_toArray, List.set_cons_zero, List.set_cons_succ]
              refine wl_nil ?_
              refine we_round ?_
              refine wr_round ?_
              refine wc_seq ?_
              refine wc_region ?_
              refine wl_val (.bool true) rfl (fun w => run_cmp rfl rfl rfl Try.underlying3 rfl w) ?_
              simp only [Act.put, List.setIfInBounds_toArray, List.set_cons_zero, List.set_cons_succ]
              refine wl_nil ?_
              refine we_then ?_
              refine wc_seq ?_
              refine wc_true rfl ?_
              refine wc_skip ?_
              refine we_then ?_
              refine wc_seq ?_
              refine wc_block ?_
              refine wc_seq ?_
              refine wc_region ?_
              refine wl_val (.int .i64 1) rfl (fun _ => rfl) ?_
              simp only [Act.put, List.setIfInBounds_toArray, List.set_cons_zero, List.set_cons_succ]
              refine wl_val (.int .i64 1) rfl (fun _ => rfl) ?_
              simp only [Act.put, List.setIfInBounds_toArray, List.set_cons_zero, List.set_cons_succ]
              refine wl_nil ?_
              refine we_then ?_
              refine wc_region ?_
              refine wl_val (.int .i64 ((0 * 256 + (((L.take (L.length - 2))[3]!).toNat) : Nat) : Int)) rfl (fun _ => rfl) ?_
              simp only [Act.put, List.setIfInBounds_toArray, List.set_cons_zero, List.set_cons_succ]
              refine wl_val (.int .i64 (((0 * 256 + (((L.take (L.length - 2))[3]!).toNat)) * 256 : Nat) : Int)) rfl (fun w => run_sal (X := 0 * 256 + (((L.take (L.length - 2))[3]!).toNat)) 8 256 (by decide) (by decide) (by omega) rfl rfl rfl w) ?_
              simp only [Act.put, List.setIfInBounds_toArray, List.set_cons_zero, List.set_cons_succ]
              refine wl_val (.slice (some ⟨g10, 0, none⟩) (L.length - 2) (L.length - 2)) rfl (fun _ => rfl) ?_
              simp only [Act.put, List.setIfInBounds_toArray, List.set_cons_zero, List.set_cons_succ]
              refine wl_val (.int .i64 1) rfl (fun _ => rfl) ?_
              simp only [Act.put, List.setIfInBounds_toArray, List.set_cons_zero, List.set_cons_succ]
              refine wl_val (.int .i64 4) rfl (fun w => run_nat (X := 3) (Y := 1) (Z := 4) rfl rfl rfl rfl (by omega) w) ?_
              simp only [Act.put, List.setIfInBounds_toArray, List.set_cons_zero, List.set_cons_succ]
              refine wl_read (eaddr (some ⟨g10, 0, none⟩) (4 * 1)) rfl (er_index 4 1 (sl_mk 0 (L := L.take (L.length - 2)) rfl) rfl rfl rfl rfl (by omega) (ub_len1 (ub_take_len rfl (by omega))) (by decide) Try.underlying45 (by kernel_rfl)) ?_
              simp only [Act.put, List.setIfInBounds_toArray, List.set_cons_zero, List.set_cons_succ]
              refine wl_read (.int .u8 (((L.take (L.length - 2))[4]!).toNat : Int)) rfl (er_cell (4 * 1) (.int .u8 (((L.take (L.length - 2))[4]!).toNat : Int)) (sl_mk 0 (L := L.take (L.length - 2)) rfl) rfl rfl (flat_cell (enc := ub) (fun _ => rfl) (L.take (L.length - 2)) 4 0 (by omega) (by decide)) Try.isAgg5) ?_
              simp only [Act.put, List.setIfInBounds_toArray, List.set_cons_zero, List.set_cons_succ]
              have q12 : ((L.take (L.length - 2))[4]!).toNat < 256 := (((L.take (L.length - 2))[4]!).toBitVec).isLt
              refine wl_val (.int .i64 ((((L.take (L.length - 2))[4]!).toNat : Nat) : Int)) rfl (fun w => run_conv (X := (((L.take (L.length - 2))[4]!).toNat : Int)) rfl rfl Try.underlying5 Try.underlying2 (i64_in (by omega) (by omega)) w) ?_
              simp only [Act.put, List.setIfInBounds_toArray, List.set_cons_zero, List.set_cons_succ]
              refine wl_val (.int .i64 (((0 * 256 + (((L.take (L.length - 2))[3]!).toNat)) * 256 + (((L.take (L.length - 2))[4]!).toNat) : Nat) : Int)) rfl (fun w => run_orn (X := (0 * 256 + (((L.take (L.length - 2))[3]!).toNat)) * 256) (Y := ((L.take (L.length - 2))[4]!).toNat) (or_byte (0 * 256 + (((L.take (L.length - 2))[3]!).toNat)) (((L.take (L.length - 2))[4]!).toNat) (by omega)) (by omega) (by omega) rfl rfl rfl w) ?_
              simp only [Act.put, List.setIfInBounds_toArray, List.set_cons_zero, List.set_cons_succ]
              refine wl_val (.int .i64 (((0 * 256 + (((L.take (L.length - 2))[3]!).toNat)) * 256 + (((L.take (L.length - 2))[4]!).toNat) : Nat) : Int)) rfl (fun _ => rfl) ?_
              simp only [Act.put, List.setIfInBounds_toArray, List.set_cons_zero, List.set_cons_succ]
              refine wl_nil ?_
              refine we_in ?_
              refine we_then ?_
              refine wc_region ?_
              refine wl_val (.int .i64 2) rfl (fun w => run_nat (X := 1) (Y := 1) (Z := 2) rfl rfl rfl rfl (by omega) w) ?_
              simp only [Act.put, List.setIfInBounds_toArray, List.set_cons_zero, List.set_cons_succ]
              refine wl_val (.int .i64 2) rfl (fun _ => rfl) ?_
              simp only [Act.put, List.setIfInBounds_toArray, List.set_cons_zero, List.set_cons_succ]
              refine wl_nil ?_
              refine we_round ?_
              refine wr_round ?_
              refine wc_seq ?_
              refine wc_region ?_
              refine wl_val (.bool false) rfl (fun w => run_cmp rfl rfl rfl Try.underlying3 rfl w) ?_
              simp only [Act.put, List.setIfInBounds_toArray, List.set_cons_zero, List.set_cons_succ]
              refine wl_nil ?_
              refine we_then ?_
              refine wc_seq ?_
              refine wc_false rfl ?_
              refine wc_exit ?_
              refine we_then_exit ?_
              refine we_then_exit ?_
              refine we_in_here ?_
              refine we_then ?_
              refine wc_seq ?_
              refine wc_seq ?_
              refine wc_region ?_
              refine wl_val (.int .i64 (((0 * 256 + (((L.take (L.length - 2))[3]!).toNat)) * 256 + (((L.take (L.length - 2))[4]!).toNat) : Nat) : Int)) rfl (fun _ => rfl) ?_
              simp only [Act.put, List.setIfInBounds_toArray, List.set_cons_zero, List.set_cons_succ]
              refine wl_val (.int .i64 65535) rfl (fun _ => rfl) ?_
              simp only [Act.put, List.setIfInBounds_toArray, List.set_cons_zero, List.set_cons_succ]
              refine wl_val (.bool (decide (65535 < (((0 * 256 + (((L.take (L.length - 2))[3]!).toNat)) * 256 + (((L.take (L.length - 2))[4]!).toNat) : Nat) : Int)))) rfl (fun w => run_cmp rfl rfl rfl Try.underlying2 rfl w) ?_
              simp only [Act.put, List.setIfInBounds_toArray, List.set_cons_zero, List.set_cons_succ]
              refine wl_nil ?_
              refine we_then ?_
              cases h13 : (decide (65535 < (((0 * 256 + (((L.take (L.length - 2))[3]!).toNat)) * 256 + (((L.take (L.length - 2))[4]!).toNat) : Nat) : Int)))
              · skip
                have p13 : ¬ (65535 < (((0 * 256 + (((L.take (L.length - 2))[3]!).toNat)) * 256 + (((L.take (L.length - 2))[4]!).toNat) : Nat) : Int)) := of_decide_eq_false h13
                refine wc_false rfl ?_
                refine wc_skip ?_
                refine we_then ?_
                refine wc_seq ?_
                refine wc_region ?_
                refine wl_val (.int .i64 (((L[0]!).toNat : Nat) : Int)) rfl (fun _ => rfl) ?_
                simp only [Act.put, List.setIfInBounds_toArray, List.set_cons_zero, List.set_cons_succ]
                refine wl_val (.slice p L.length c) rfl (fun _ => rfl) ?_
                simp only [Act.put, List.setIfInBounds_toArray, List.set_cons_zero, List.set_cons_succ]
                refine wl_read (eaddr p (1 * 1)) rfl (er_index 1 1 (sl_old hL) rfl rfl rfl rfl (by omega) (ub_len1 rfl) (by decide) Try.underlying45 (by kernel_rfl)) ?_
                simp only [Act.put, List.setIfInBounds_toArray, List.set_cons_zero, List.set_cons_succ]
                refine wl_read (.int .u8 ((L[1]!).toNat : Int)) rfl (er_cell (1 * 1) (.int .u8 ((L[1]!).toNat : Int)) (sl_old hL) rfl rfl (flat_cell (enc := ub) (fun _ => rfl) L 1 0 (by omega) (by decide)) Try.isAgg5) ?_
                simp only [Act.put, List.setIfInBounds_toArray, List.set_cons_zero, List.set_cons_succ]
                have q14 : (L[1]!).toNat < 256 := ((L[1]!).toBitVec).isLt
                refine wl_val (.int .i64 (((L[1]!).toNat : Nat) : Int)) rfl (fun w => run_conv (X := ((L[1]!).toNat : Int)) rfl rfl Try.underlying5 Try.underlying3 (i64_in (by omega) (by omega)) w) ?_
                simp only [Act.put, List.setIfInBounds_toArray, List.set_cons_zero, List.set_cons_succ]
                refine wl_val (.int .i64 (((0 * 256 + (((L.take (L.length - 2))[3]!).toNat)) * 256 + (((L.take (L.length - 2))[4]!).toNat) : Nat) : Int)) rfl (fun _ => rfl) ?_
                simp only [Act.put, List.setIfInBounds_toArray, List.set_cons_zero, List.set_cons_succ]
                refine wl_val (.agg #[.int .i64 (((L[0]!).toNat : Nat) : Int), .int .i64 (((L[1]!).toNat : Nat) : Int), .int .i64 (((0 * 256 + (((L.take (L.length - 2))[3]!).toNat)) * 256 + (((L.take (L.length - 2))[4]!).toNat) : Nat) : Int)]) rfl (fun _ => by go_simp) ?_
                simp only [Act.put, List.setIfInBounds_toArray, List.set_cons_zero, List.set_cons_succ]
                refine wl_store 1 43 (.tmp 2) (.tmp 79) (#[.int .i64 (((L[0]!).toNat : Nat) : Int), .int .i64 (((L[1]!).toNat : Nat) : Int), .int .i64 (((0 * 256 + (((L.take (L.length - 2))[3]!).toNat)) * 256 + (((L.take (L.length - 2))[4]!).toNat) : Nat) : Int)]) rfl rfl rfl rfl rfl (by kernel_rfl) rfl (by simp [Value.oneCell']) ?_
                simp only [Act.put, List.set_cons_zero, List.set_cons_succ]
                refine wl_val (.int .i64 0) rfl (fun _ => rfl) ?_
                simp only [Act.put, List.setIfInBounds_toArray, List.set_cons_zero, List.set_cons_succ]
                refine wl_nil ?_
                refine we_then ?_
                refine wc_ret ?_
                refine we_ret_cell_tmp (.int .i64 0) (own_row 1 rfl) rfl rfl rfl rfl Try.underlying43 rfl (by kernel_rfl) (fun w1 hE => ?_)
                have e0 := get_good (L := L) (by omega) (by omega) (by omega) (by omega) h9
                have e1 := getV2 (L := L) (by omega) (by omega)
                exact ⟨by rw [getF_yes e0, e0, e1]; rfl, hE.below⟩
              · skip
                have p13 : 65535 < (((0 * 256 + (((L.take (L.length - 2))[3]!).toNat)) * 256 + (((L.take (L.length - 2))[4]!).toNat) : Nat) : Int) := of_decide_eq_true h13
                exact (by exfalso; omega)
          · skip
            have p8 : (L.length : Int) ≠ 7 := by simpa using h8
            refine wc_true rfl ?_
            refine wc_seq ?_
            refine wc_region ?_
            refine wl_val (.agg #[.int .i64 0, .int .i64 0, .int .i64 0]) rfl (fun _ => by go_simp) ?_
            simp only [Act.put, List.setIfInBounds_toArray, List.set_cons_zero, List.set_cons_succ]
            refine wl_store 0 43 (.tmp 2) (.tmp 42) (#[.int .i64 0, .int .i64 0, .int .i64 0]) rfl rfl rfl rfl rfl (by kernel_rfl) rfl (by simp [Value.oneCell']) ?_
            simp only [Act.put, List.set_cons_zero]
            refine wl_val (.int .i64 11) rfl (fun _ => rfl) ?_
            simp only [Act.put, List.setIfInBounds_toArray, List.set_cons_zero, List.set_cons_succ]
            refine wl_nil ?_
            refine we_then ?_
            refine wc_ret ?_
            refine we_then_ret ?_
            refine we_ret_cell_tmp (.int .i64 11) (own_row 0 rfl) rfl rfl rfl rfl Try.underlying43 rfl (by kernel_rfl) (fun w1 hE => ?_)
            have e1 := get_form (L := L) (by omega) (by omega) (by omega)
            exact ⟨by rw [getF_no e1 (by decide), e1]; rfl, hE.below⟩
        · skip
          have p7 : (((L[2]!).toNat : Nat) : Int) ≠ 2 := by simpa using h7
          refine wl_skip rfl ?_
          simp only [Act.put, List.setIfInBounds_toArray, List.set_cons_zero, List.set_cons_succ]
          refine wl_skip rfl ?_
          simp only [Act.put, List.setIfInBounds_toArray, List.set_cons_zero, List.set_cons_succ]
          refine wl_skip rfl ?_
          simp only [Act.put, List.setIfInBounds_toArray, List.set_cons_zero, List.set_cons_succ]
          refine wl_skip rfl ?_
          simp only [Act.put, List.setIfInBounds_toArray, List.set_cons_zero, List.set_cons_succ]
          refine wl_skip rfl ?_
          simp only [Act.put, List.setIfInBounds_toArray, List.set_cons_zero, List.set_cons_succ]
          refine wl_val (.bool true) rfl (fun _ => rfl) ?_
          simp only [Act.put, List.setIfInBounds_toArray, List.set_cons_zero, List.set_cons_succ]
          refine wl_nil ?_
          refine we_then ?_
          refine wc_true rfl ?_
          refine wc_seq ?_
          refine wc_region ?_
          refine wl_val (.agg #[.int .i64 0, .int .i64 0, .int .i64 0]) rfl (fun _ => by go_simp) ?_
          simp only [Act.put, List.setIfInBounds_toArray, List.set_cons_zero, List.set_cons_succ]
          refine wl_store 0 43 (.tmp 2) (.tmp 42) (#[.int .i64 0, .int .i64 0, .int .i64 0]) rfl rfl rfl rfl rfl (by kernel_rfl) rfl (by simp [Value.oneCell']) ?_
          simp only [Act.put, List.set_cons_zero]
          refine wl_val (.int .i64 11) rfl (fun _ => rfl) ?_
          simp only [Act.put, List.setIfInBounds_toArray, List.set_cons_zero, List.set_cons_succ]
          refine wl_nil ?_
          refine we_then ?_
          refine wc_ret ?_
          refine we_then_ret ?_
          refine we_ret_cell_tmp (.int .i64 11) (own_row 0 rfl) rfl rfl rfl rfl Try.underlying43 rfl (by kernel_rfl) (fun w1 hE => ?_)
          have e1 := get_form (L := L) (by omega) (by omega) (by omega)
          exact ⟨by rw [getF_no e1 (by decide), e1]; rfl, hE.below⟩
      · skip
        have p5 : ksize (hd L) = 4 := by simpa using h5
        refine wl_call 18 #[.int .i64 (((L[0]!).toNat : Nat) : Int)] (.tuple #[.int .i64 4, .int .i64 (-2147483648), .int .i64 2147483647]) rfl (fun _ => by go_simp) (fun W => values_four (hd L) (by omega) W) ?_
        simp only [Act.put, List.setIfInBounds_toArray, List.set_cons_zero, List.set_cons_succ]
        refine wl_val (.tuple #[.int .i64 4, .int .i64 (-2147483648), .int .i64 2147483647]) rfl (fun _ => rfl) ?_
        simp only [Act.put, List.setIfInBounds_toArray, List.set_cons_zero, List.set_cons_succ]
        refine wl_val (.int .i64 4) rfl (fun _ => by go_simp) ?_
        simp only [Act.put, List.setIfInBounds_toArray, List.set_cons_zero, List.set_cons_succ]
        refine wl_val (.int .i64 (-2147483648)) rfl (fun _ => by go_simp) ?_
        simp only [Act.put, List.setIfInBounds_toArray, List.set_cons_zero, List.set_cons_succ]
        refine wl_val (.int .i64 2147483647) rfl (fun _ => by go_simp) ?_
        simp only [Act.put, List.setIfInBounds_toArray, List.set_cons_zero, List.set_cons_succ]
        refine wl_val (.int .i64 4) rfl (fun _ => rfl) ?_
        simp only [Act.put, List.setIfInBounds_toArray, List.set_cons_zero, List.set_cons_succ]
        refine wl_val (.int .i64 (-2147483648)) rfl (fun _ => rfl) ?_
        simp only [Act.put, List.setIfInBounds_toArray, List.set_cons_zero, List.set_cons_succ]
        refine wl_val (.int .i64 2147483647) rfl (fun _ => rfl) ?_
        simp only [Act.put, List.setIfInBounds_toArray, List.set_cons_zero, List.set_cons_succ]
        refine wl_nil ?_
        refine we_then ?_
        refine wc_seq ?_
        refine wc_seq ?_
        refine wc_region ?_
        refine wl_val (.int .i64 4) rfl (fun _ => rfl) ?_
        simp only [Act.put, List.setIfInBounds_toArray, List.set_cons_zero, List.set_cons_succ]
        refine wl_val (.bool false) rfl (fun w => run_cmp rfl rfl rfl Try.underlying3 rfl w) ?_
        simp only [Act.put, List.setIfInBounds_toArray, List.set_cons_zero, List.set_cons_succ]
        refine wl_nil ?_
        refine we_then ?_
        refine wc_false rfl ?_
        refine wc_skip ?_
        refine we_then ?_
        refine wc_seq ?_
        refine wc_seq ?_
        refine wc_region ?_
        refine wl_val (.slice p L.length c) rfl (fun _ => rfl) ?_
        simp only [Act.put, List.setIfInBounds_toArray, List.set_cons_zero, List.set_cons_succ]
        refine wl_read (eaddr p (2 * 1)) rfl (er_index 2 1 (sl_old hL) rfl rfl rfl rfl (by omega) (ub_len1 rfl) (by decide) Try.underlying45 (by kernel_rfl)) ?_
        simp only [Act.put, List.setIfInBounds_toArray, List.set_cons_zero, List.set_cons_succ]
        refine wl_read (.int .u8 ((L[2]!).toNat : Int)) rfl (er_cell (2 * 1) (.int .u8 ((L[2]!).toNat : Int)) (sl_old hL) rfl rfl (flat_cell (enc := ub) (fun _ => rfl) L 2 0 (by omega) (by decide)) Try.isAgg5) ?_
        simp only [Act.put, List.setIfInBounds_toArray, List.set_cons_zero, List.set_cons_succ]
        have q15 : (L[2]!).toNat < 256 := ((L[2]!).toBitVec).isLt
        refine wl_val (.int .i64 (((L[2]!).toNat : Nat) : Int)) rfl (fun w => run_conv (X := ((L[2]!).toNat : Int)) rfl rfl Try.underlying5 Try.underlying3 (i64_in (by omega) (by omega)) w) ?_
        simp only [Act.put, List.setIfInBounds_toArray, List.set_cons_zero, List.set_cons_succ]
        refine wl_val (.int .i64 4) rfl (fun _ => rfl) ?_
        simp only [Act.put, List.setIfInBounds_toArray, List.set_cons_zero, List.set_cons_succ]
        refine wl_val (.bool ((((L[2]!).toNat : Nat) : Int) != 4)) rfl (fun w => run_cmp rfl rfl rfl Try.underlying3 rfl w) ?_
        simp only [Act.put, List.setIfInBounds_toArray, List.set_cons_zero, List.set_cons_succ]
        refine wl_val (.bool ((((L[2]!).toNat : Nat) : Int) != 4)) rfl (fun _ => rfl) ?_
        simp only [Act.put, List.setIfInBounds_toArray, List.set_cons_zero, List.set_cons_succ]
        cases h16 : ((((L[2]!).toNat : Nat) : Int) != 4)
        · skip
          have p16 : ¬ ((((L[2]!).toNat : Nat) : Int) ≠ 4) := by simpa using h16
          refine wl_val (.slice p L.length c) rfl (fun _ => rfl) ?_
          simp only [Act.put, List.setIfInBounds_toArray, List.set_cons_zero, List.set_cons_succ]
          refine wl_val (.int .i64 (L.length : Int)) rfl (fun w => er_len rfl rfl Try.underlying45 w) ?_
          simp only [Act.put, List.setIfInBounds_toArray, List.set_cons_zero, List.set_cons_succ]
          refine wl_val (.int .i64 4) rfl (fun _ => rfl) ?_
          simp only [Act.put, List.setIfInBounds_toArray, List.set_cons_zero, List.set_cons_succ]
          refine wl_val (.int .i64 9) rfl (fun w => run_nat (X := 5) (Y := 4) (Z := 9) rfl rfl rfl rfl (by omega) w) ?_
          simp only [Act.put, List.setIfInBounds_toArray, List.set_cons_zero, List.set_cons_succ]
          refine wl_val (.bool ((L.length : Int) != 9)) rfl (fun w => run_cmp rfl rfl rfl Try.underlying3 rfl w) ?_
          simp only [Act.put, List.setIfInBounds_toArray, List.set_cons_zero, List.set_cons_succ]
          refine wl_val (.bool ((L.length : Int) != 9)) rfl (fun _ => rfl) ?_
          simp only [Act.put, List.setIfInBounds_toArray, List.set_cons_zero, List.set_cons_succ]
          refine wl_nil ?_
          refine we_then ?_
          cases h17 : ((L.length : Int) != 9)
          · skip
            have p17 : ¬ ((L.length : Int) ≠ 9) := by simpa using h17
            refine wc_false rfl ?_
            refine wc_skip ?_
            refine we_then ?_
            refine wc_seq ?_
            refine wc_region ?_
            refine wl_val (.slice p L.length c) rfl (fun _ => rfl) ?_
            simp only [Act.put, List.setIfInBounds_toArray, List.set_cons_zero, List.set_cons_succ]
            cases h18 : (opens L)
            · skip
              refine wl_call_at 20 #[.slice p L.length c] (.tuple #[.slice none 0 0, .bool false]) rfl (fun _ => by go_simp) (fun W hE => open_no L p c W (sl_old (R := []) hL W (hE.sub (List.nil_sublist _))) (by omega) hc h18) ?_
              simp only [Act.put, List.setIfInBounds_toArray, List.set_cons_zero, List.set_cons_succ]
              refine wl_val (.tuple #[.slice none 0 0, .bool false]) rfl (fun _ => rfl) ?_
              simp only [Act.put, List.setIfInBounds_toArray, List.set_cons_zero, List.set_cons_succ]
              refine wl_val (.slice none 0 0) rfl (fun _ => by go_simp) ?_
              simp only [Act.put, List.setIfInBounds_toArray, List.set_cons_zero, List.set_cons_succ]
              refine wl_val (.bool false) rfl (fun _ => by go_simp) ?_
              simp only [Act.put, List.setIfInBounds_toArray, List.set_cons_zero, List.set_cons_succ]
              refine wl_val (.slice none 0 0) rfl (fun _ => rfl) ?_
              simp only [Act.put, List.setIfInBounds_toArray, List.set_cons_zero, List.set_cons_succ]
              refine wl_val (.bool false) rfl (fun _ => rfl) ?_
              simp only [Act.put, List.setIfInBounds_toArray, List.set_cons_zero, List.set_cons_succ]
              refine wl_nil ?_
              refine we_then ?_
              refine wc_seq ?_
              refine wc_seq ?_
              refine wc_region ?_
              refine wl_val (.bool false) rfl (fun _ => rfl) ?_
              simp only [Act.put, List.setIfInBounds_toArray, List.set_cons_zero, List.set_cons_succ]
              refine wl_val (.bool true) rfl (fun _ => by go_simp) ?_
              simp only [Act.put, List.setIfInBounds_toArray, List.set_cons_zero, List.set_cons_succ]
              refine wl_nil ?_
              refine we_then ?_
              refine wc_true rfl ?_
              refine wc_seq ?_
              refine wc_region ?_
              refine wl_val (.agg #[.int .i64 0, .int .i64 0, .int .i64 0]) rfl (fun _ => by go_simp) ?_
              simp only [Act.put, List.setIfInBounds_toArray, List.set_cons_zero, List.set_cons_succ]
              refine wl_store 0 43 (.tmp 2) (.tmp 50) (#[.int .i64 0, .int .i64 0, .int .i64 0]) rfl rfl rfl rfl rfl (by kernel_rfl) rfl (by simp [Value.oneCell']) ?_
              simp only [Act.put, List.set_cons_zero]
              refine wl_val (.int .i64 31) rfl (fun _ => rfl) ?_
              simp only [Act.put, List.setIfInBounds_toArray, List.set_cons_zero, List.set_cons_succ]
              refine wl_nil ?_
              refine we_then ?_
              refine wc_ret ?_
              refine we_then_ret ?_
              refine we_ret_cell_tmp (.int .i64 31) (own_row 0 rfl) rfl rfl rfl rfl Try.underlying43 rfl (by kernel_rfl) (fun w1 hE => ?_)
              have e1 := get_sum (L := L) (by omega) (by omega) (by omega) (by omega) h18
              exact ⟨by rw [getF_no e1 (by decide), e1]; rfl, hE.below⟩
            · skip
              refine wl_call_env (ι := Nat) 20 #[.slice p L.length c] (fun g19 => .tuple #[.slice (some ⟨g19, 0, none⟩) (L.length - 2) (L.length - 2), .bool true]) (fun g19 => [⟨g19, (flat ub (L.take (L.length - 2))).toArray, 5⟩]) (fun _ => True) rfl (fun _ => by go_simp) (fun W hE => open_yes L p c W (sl_old (R := []) hL W (hE.sub (List.nil_sublist _))) (by omega) hc h18) ?_
              rintro g19 -
              simp only [List.cons_append, List.nil_append, Act.put, List.setIfInBounds_toArray, List.set_cons_zero, List.set_cons_succ]
              refine wl_val (.tuple #[.slice (some ⟨g19, 0, none⟩) (L.length - 2) (L.length - 2), .bool true]) rfl (fun _ => rfl) ?_
              simp only [Act.put, List.setIfInBounds_toArray, List.set_cons_zero, List.set_cons_succ]
              refine wl_val (.slice (some ⟨g19, 0, none⟩) (L.length - 2) (L.length - 2)) rfl (fun _ => by go_simp) ?_
              simp only [Act.put, List.setIfInBounds_toArray, List.set_cons_zero, List.set_cons_succ]
              refine wl_val (.bool true) rfl (fun _ => by go_simp) ?_
              simp only [Act.put, List.setIfInBounds_toArray, List.set_cons_zero, List.set_cons_succ]
              refine wl_val (.slice (some ⟨g19, 0, none⟩) (L.length - 2) (L.length - 2)) rfl (fun _ => rfl) ?_
              simp only [Act.put, List.setIfInBounds_toArray, List.set_cons_zero, List.set_cons_succ]
              refine wl_val (.bool true) rfl (fun _ => rfl) ?_
              simp only [Act.put, List.setIfInBounds_toArray, List.set_cons_zero, List.set_cons_succ]
              refine wl_nil ?_
              refine we_then ?_
              refine wc_seq ?_
              refine wc_seq ?_
              refine wc_region ?_
              refine wl_val (.bool true) rfl (fun _ => rfl) ?_
              simp only [Act.put, List.setIfInBounds_toArray, List.set_cons_zero, List.set_cons_succ]
              refine wl_val (.bool false) rfl (fun _ => by go_simp) ?_
              simp only [Act.put, List.setIfInBounds_toArray, List.set_cons_zero, List.set_cons_succ]
              refine wl_nil ?_
              refine we_then ?_
              refine wc_false rfl ?_
              refine wc_skip ?_
              refine we_then ?_
              refine wc_seq ?_
              refine wc_region ?_
              refine wl_val (.int .i64 0) rfl (fun _ => rfl) ?_
              simp only [Act.put, List.setIfInBounds_toArray, List.set_cons_zero, List.set_cons_succ]
              refine wl_nil ?_
              refine we_then ?_
              refine wc_seq ?_
              refine wc_seq ?_
              refine wc_region ?_
              refine wl_val (.int .i64 4) rfl (fun _ => rfl) ?_
              simp only [Act.put, List.setIfInBounds_toArray, List.set_cons_zero, List.set_cons_succ]
              refine wl_val (.int .i64 0) rfl (fun _ => rfl) ?_
              simp only [Act.put, List.setIfInBounds_toArray, List.set_cons_zero, List.set_cons_succ]
              refine wl_nil ?_
              refine we_then ?_
              refine wc_block ?_
              refine wr_start 5 ?_
              refine wr_round ?_
              refine wc_seq ?_
              refine wc_region ?_
              refine wl_val (.bool true) rfl (fun w => run_cmp rfl rfl rfl Try.underlying3 rfl w) ?_
              simp only [Act.put, List.setIfInBounds_toArray, List.set_cons_zero, List.set_cons_succ]
              refine wl_nil ?_
              refine we_then ?_
              refine wc_seq ?_
              refine wc_true rfl ?_
              refine wc_skip ?_
              refine we_then ?_
              refine wc_seq ?_
              refine wc_block ?_
              refine wc_seq ?_
              refine wc_region ?_
              refine wl_val (.int .i64 0) rfl (fun _ => rfl) ?_
              simp only [Act.put, List.setIfInBounds_toArray, List.set_cons_zero, List.set_cons_succ]
              refine wl_val (.int .i64 0) rfl (fun _ => rfl) ?_
              simp only [Act.put, List.setIfInBounds_toArray, List.set_cons_zero, List.set_cons_succ]
              refine wl_nil ?_
              refine we_then ?_
              refine wc_region ?_
              refine wl_val (.int .i64 0) rfl (fun _ => rfl) ?_
              simp only [Act.put, List.setIfInBounds_toArray, List.set_cons_zero, List.set_cons_succ]
              refine wl_val (.int .i64 ((0 * 256 : Nat) : Int)) rfl (fun w => run_sal (X := 0) 8 256 (by decide) (by decide) (by omega) rfl rfl rfl w) ?_
              simp only [Act.put, List.setIfInBounds_toArray, List.set_cons_zero, List.set_cons_succ]
              refine wl_val (.slice (some ⟨g19, 0, none⟩) (L.length - 2) (L.length - 2)) rfl (fun _ => rfl) ?_
              simp only [Act.put, List.setIfInBounds_toArray, List.set_cons_zero, List.set_cons_succ]
              refine wl_val (.int .i64 0) rfl (fun _ => rfl) ?_
              simp only [Act.put, List.setIfInBounds_toArray, List.set_cons_zero, List.set_cons_succ]
              refine wl_val (.int .i64 3) rfl (fun w => run_nat (X := 3) (Y := 0) (Z := 3) rfl rfl rfl rfl (by omega) w) ?_
              simp only [Act.put, List.setIfInBounds_toArray, List.set_cons_zero, List.set_cons_succ]
              refine wl_read (eaddr (some ⟨g19, 0, none⟩) (3 * 1)) rfl (er_index 3 1 (sl_mk 0 (L := L.take (L.length - 2)) rfl) rfl rfl rfl rfl (by omega) (ub_len1 (ub_take_len rfl (by omega))) (by decide) Try.underlying45 (by kernel_rfl)) ?_
              simp only [Act.put, List.setIfInBounds_toArray, List.set_cons_zero, List.set_cons_succ]
              refine wl_read (.int .u8 (((L.take (L.length - 2))[3]!).toNat : Int)) rfl (er_cell (3 * 1) (.int .u8 (((L.take (L.length - 2))[3]!).toNat : Int)) (sl_mk 0 (L := L.take (L.length - 2)) rfl) rfl rfl (flat_cell (enc := ub) (fun _ => rfl) (L.take (L.length - 2)) 3 0 (by omega) (by decide)) Try.isAgg5) ?_
              simp only [Act.put, List.setIfInBounds_toArray, List.set_cons_zero, List.set_cons_succ]
              have q20 : ((L.take (L.length - 2))[3]!).toNat < 256 := (((L.take (L.length - 2))[3]!).toBitVec).isLt
              refine wl_val (.int .i64 ((((L.take (L.length - 2))[3]!).toNat : Nat) : Int)) rfl (fun w => run_conv (X := (((L.take (L.length - 2))[3]!).toNat : Int)) rfl rfl Try.underlying5 Try.underlying2 (i64_in (by omega) (by omega)) w) ?_
              simp only [Act.put, List.setIfInBounds_toArray, List.set_cons_zero, List.set_cons_succ]
              refine wl_val (.int .i64 ((0 * 256 + (((L.take (L.length - 2))[3]!).toNat) : Nat) : Int)) rfl (fun w => run_orn (X := 0 * 256) (Y := ((L.take (L.length - 2))[3]!).toNat) (or_byte 0 (((L.take (L.length - 2))[3]!).toNat) (by omega)) (by omega) (by omega) rfl rfl rfl w) ?_
              simp only [Act.put, List.setIfInBounds_toArray, List.set_cons_zero, List.set_cons_succ]
              refine wl_val (.int .i64 ((0 * 256 + (((L.take (L.length - 2))[3]!).toNat) : Nat) : Int)) rfl (fun _ => rfl) ?_
              simp only [Act.put, List.setIfInBounds_toArray, List.set_cons_zero, List.set_cons_succ]
              refine wl_nil ?_
              refine we_in ?_
              refine we_then ?_
              refine wc_region ?_
              refine wl_val (.int .i64 1) rfl (fun w => run_nat (X := 0) (Y := 1) (Z := 1) rfl rfl rfl rfl (by omega) w) ?_
              simp only [Act.put, List.setIfInBounds_toArray, List.set_cons_zero, List.set_cons_succ]
              refine wl_val (.int .i64 1) rfl (fun _ => rfl) ?_
              simp only [Act.put, List.setIfInBounds_toArray, List.set_cons_zero, List.set_cons_succ]
              refine wl_nil ?_
              refine we_round ?_
              refine wr_round ?_
              refine wc_seq ?_
              refine wc_region ?_
              refine wl_val (.bool true) rfl (fun w => run_cmp rfl rfl rfl Try.underlying3 rfl w) ?_
              simp only [Act.put, List.setIfInBounds_toArray, List.set_cons_zero, List.set_cons_succ]
              refine wl_nil ?_
              refine we_then ?_
              refine wc_seq ?_
              refine wc_true rfl ?_
              refine wc_skip ?_
              refine we_then ?_
              refine wc_seq ?_
              refine wc_block ?_
              refine wc_seq ?_
              refine wc_region ?_
              refine wl_val (.int .i64 1) rfl (fun _ => rfl) ?_
              simp only [Act.put, List.setIfInBounds_toArray, List.set_cons_zero, List.set_cons_succ]
              refine wl_val (.int .i64 1) rfl (fun _ => rfl) ?_
              simp only [Act.put, List.setIfInBounds_toArray, List.set_cons_zero, List.set_cons_succ]
              refine wl_nil ?_
              refine we_then ?_
              refine wc_region ?_
              refine wl_val (.int .i64 ((0 * 256 + (((L.take (L.length - 2))[3]!).toNat) : Nat) : Int)) rfl (fun _ => rfl) ?_
              simp only [Act.put, List.setIfInBounds_toArray, List.set_cons_zero, List.set_cons_succ]
              refine wl_val (.int .i64 (((0 * 256 + (((L.take (L.length - 2))[3]!).toNat)) * 256 : Nat) : Int)) rfl (fun w => run_sal (X := 0 * 256 + (((L.take (L.length - 2))[3]!).toNat)) 8 256 (by decide) (by decide) (by omega) rfl rfl rfl w) ?_
              simp only [Act.put, List.setIfInBounds_toArray, List.set_cons_zero, List.set_cons_succ]
              refine wl_val (.slice (some ⟨g19, 0, none⟩) (L.length - 2) (L.length - 2)) rfl (fun _ => rfl) ?_
              simp only [Act.put, List.setIfInBounds_toArray, List.set_cons_zero, List.set_cons_succ]
              refine wl_val (.int .i64 1) rfl (fun _ => rfl) ?_
              simp only [Act.put, List.setIfInBounds_toArray, List.set_cons_zero, List.set_cons_succ]
              refine wl_val (.int .i64 4) rfl (fun w => run_nat (X := 3) (Y := 1) (Z := 4) rfl rfl rfl rfl (by omega) w) ?_
              simp only [Act.put, List.setIfInBounds_toArray, List.set_cons_zero, List.set_cons_succ]
              refine wl_read (eaddr (some ⟨g19, 0, none⟩) (4 * 1)) rfl (er_index 4 1 (sl_mk 0 (L := L.take (L.length - 2)) rfl) rfl rfl rfl rfl (by omega) (ub_len1 (ub_take_len rfl (by omega))) (by decide) Try.underlying45 (by kernel_rfl)) ?_
              simp only [Act.put, List.setIfInBounds_toArray, List.set_cons_zero, List.set_cons_succ]
              refine wl_read (.int .u8 (((L.take (L.length - 2))[4]!).toNat : Int)) rfl (er_cell (4 * 1) (.int .u8 (((L.take (L.length - 2))[4]!).toNat : Int)) (sl_mk 0 (L := L.take (L.length - 2)) rfl) rfl rfl (flat_cell (enc := ub) (fun _ => rfl) (L.take (L.length - 2)) 4 0 (by omega) (by decide)) Try.isAgg5) ?_
              simp only [Act.put, List.setIfInBounds_toArray, List.set_cons_zero, List.set_cons_succ]
              have q21 : ((L.take (L.length - 2))[4]!).toNat < 256 := (((L.take (L.length - 2))[4]!).toBitVec).isLt
              refine wl_val (.int .i64 ((((L.take (L.length - 2))[4]!).toNat : Nat) : Int)) rfl (fun w => run_conv (X := (((L.take (L.length - 2))[4]!).toNat : Int)) rfl rfl Try.underlying5 Try.underlying2 (i64_in (by omega) (by omega)) w) ?_
              simp only [Act.put, List.setIfInBounds_toArray, List.set_cons_zero, List.set_cons_succ]
              refine wl_val (.int .i64 (((0 * 256 + (((L.take (L.length - 2))[3]!).toNat)) * 256 + (((L.take (L.length - 2))[4]!).toNat) : Nat) : Int)) rfl (fun w => run_orn (X := (0 * 256 + (((L.take (L.length - 2))[3]!).toNat)) * 256) (Y := ((L.take (L.length - 2))[4]!).toNat) (or_byte (0 * 256 + (((L.take (L.length - 2))[3]!).toNat)) (((L.take (L.length - 2))[4]!).toNat) (by omega)) (by omega) (by omega) rfl rfl rfl w) ?_
              simp only [Act.put, List.setIfInBounds_toArray, List.set_cons_zero, List.set_cons_succ]
              refine wl_val (.int .i64 (((0 * 256 + (((L.take (L.length - 2))[3]!).toNat)) * 256 + (((L.take (L.length - 2))[4]!).toNat) : Nat) : Int)) rfl (fun _ => rfl) ?_
              simp only [Act.put, List.setIfInBounds_toArray, List.set_cons_zero, List.set_cons_succ]
              refine wl_nil ?_
              refine we_in ?_
              refine we_then ?_
              refine wc_region ?_
              refine wl_val (.int .i64 2) rfl (fun w => run_nat (X := 1) (Y := 1) (Z := 2) rfl rfl rfl rfl (by omega) w) ?_
              simp only [Act.put, List.setIfInBounds_toArray, List.set_cons_zero, List.set_cons_succ]
              refine wl_val (.int .i64 2) rfl (fun _ => rfl) ?_
              simp only [Act.put, List.setIfInBounds_toArray, List.set_cons_zero, List.set_cons_succ]
              refine wl_nil ?_
              refine we_round ?_
              refine wr_round ?_
              refine wc_seq ?_
              refine wc_region ?_
              refine wl_val (.bool true) rfl (fun w => run_cmp rfl rfl rfl Try.underlying3 rfl w) ?_
              simp only [Act.put, List.setIfInBounds_toArray, List.set_cons_zero, List.set_cons_succ]
              refine wl_nil ?_
              refine we_then ?_
              refine wc_seq ?_
              refine wc_true rfl ?_
              refine wc_skip ?_
              refine we_then ?_
              refine wc_seq ?_
              refine wc_block ?_
              refine wc_seq ?_
              refine wc_region ?_
              refine wl_val (.int .i64 2) rfl (fun _ => rfl) ?_
              simp only [Act.put, List.setIfInBounds_toArray, List.set_cons_zero, List.set_cons_succ]
              refine wl_val (.int .i64 2) rfl (fun _ => rfl) ?_
              simp only [Act.put, List.setIfInBounds_toArray, List.set_cons_zero, List.set_cons_succ]
              refine wl_nil ?_
              refine we_then ?_
              refine wc_region ?_
              refine wl_val (.int .i64 (((0 * 256 + (((L.take (L.length - 2))[3]!).toNat)) * 256 + (((L.take (L.length - 2))[4]!).toNat) : Nat) : Int)) rfl (fun _ => rfl) ?_
              simp only [Act.put, List.setIfInBounds_toArray, List.set_cons_zero, List.set_cons_succ]
              refine wl_val (.int .i64 ((((0 * 256 + (((L.take (L.length - 2))[3]!).toNat)) * 256 + (((L.take (L.length - 2))[4]!).toNat)) * 256 : Nat) : Int)) rfl (fun w => run_sal (X := (0 * 256 + (((L.take (L.length - 2))[3]!).toNat)) * 256 + (((L.take (L.length - 2))[4]!).toNat)) 8 256 (by decide) (by decide) (by omega) rfl rfl rfl w) ?_
              simp only [Act.put, List.setIfInBounds_toArray, List.set_cons_zero, List.set_cons_succ]
              refine wl_val (.slice (some ⟨g19, 0, none⟩) (L.length - 2) (L.length - 2)) rfl (fun _ => rfl) ?_
              simp only [Act.put, List.setIfInBounds_toArray, List.set_cons_zero, List.set_cons_succ]
              refine wl_val (.int .i64 2) rfl (fun _ => rfl) ?_
              simp only [Act.put, List.setIfInBounds_toArray, List.set_cons_zero, List.set_cons_succ]
              refine wl_val (.int .i64 5) rfl (fun w => run_nat (X := 3) (Y := 2) (Z := 5) rfl rfl rfl rfl (by omega) w) ?_
              simp only [Act.put, List.setIfInBounds_toArray, List.set_cons_zero, List.set_cons_succ]
              refine wl_read (eaddr (some ⟨g19, 0, none⟩) (5 * 1)) rfl (er_index 5 1 (sl_mk 0 (L := L.take (L.length - 2)) rfl) rfl rfl rfl rfl (by omega) (ub_len1 (ub_take_len rfl (by omega))) (by decide) Try.underlying45 (by kernel_rfl)) ?_
              simp only [Act.put, List.setIfInBounds_toArray, List.set_cons_zero, List.set_cons_succ]
              refine wl_read (.int .u8 (((L.take (L.length - 2))[5]!).toNat : Int)) rfl (er_cell (5 * 1) (.int .u8 (((L.take (L.length - 2))[5]!).toNat : Int)) (sl_mk 0 (L := L.take (L.length - 2)) rfl) rfl rfl (flat_cell (enc := ub) (fun _ => rfl) (L.take (L.length - 2)) 5 0 (by omega) (by decide)) Try.isAgg5) ?_
              simp only [Act.put, List.setIfInBounds_toArray, List.set_cons_zero, List.set_cons_succ]
              have q22 : ((L.take (L.length - 2))[5]!).toNat < 256 := (((L.take (L.length - 2))[5]!).toBitVec).isLt
              refine wl_val (.int .i64 ((((L.take (L.length - 2))[5]!).toNat : Nat) : Int)) rfl (fun w => run_conv (X := (((L.take (L.length - 2))[5]!).toNat : Int)) rfl rfl Try.underlying5 Try.underlying2 (i64_in (by omega) (by omega)) w) ?_
              simp only [Act.put, List.setIfInBounds_toArray, List.set_cons_zero, List.set_cons_succ]
              refine wl_val (.int .i64 ((((0 * 256 + (((L.take (L.length - 2))[3]!).toNat)) * 256 + (((L.take (L.length - 2))[4]!).toNat)) * 256 + (((L.take (L.length - 2))[5]!).toNat) : Nat) : Int)) rfl (fun w => run_orn (X := ((0 * 256 + (((L.take (L.length - 2))[3]!).toNat)) * 256 + (((L.take (L.length - 2))[4]!).toNat)) * 256) (Y := ((L.take (L.length - 2))[5]!).toNat) (or_byte ((0 * 256 + (((L.take (L.length - 2))[3]!).toNat)) * 256 + (((L.take (L.length - 2))[4]!).toNat)) (((L.take (L.length - 2))[5]!).toNat) (by omega)) (by omega) (by omega) rfl rfl rfl w) ?_
              simp only [Act.put, List.setIfInBounds_toArray, List.set_cons_zero, List.set_cons_succ]
              refine wl_val (.int .i64 ((((0 * 256 + (((L.take (L.length - 2))[3]!).toNat)) * 256 + (((L.take (L.length - 2))[4]!).toNat)) * 256 + (((L.take (L.length - 2))[5]!).toNat) : Nat) : Int)) rfl (fun _ => rfl) ?_
              simp only [Act.put, List.setIfInBounds_toArray, List.set_cons_zero, List.set_cons_succ]
              refine wl_nil ?_
              refine we_in ?_
              refine we_then ?_
              refine wc_region ?_
              refine wl_val (.int .i64 3) rfl (fun w => run_nat (X := 2) (Y := 1) (Z := 3) rfl rfl rfl rfl (by omega) w) ?_
              simp only [Act.put, List.setIfInBounds_toArray, List.set_cons_zero, List.set_cons_succ]
              refine wl_val (.int .i64 3) rfl (fun _ => rfl) ?_
              simp only [Act.put, List.setIfInBounds_toArray, List.set_cons_zero, List.set_cons_succ]
              refine wl_nil ?_
              refine we_round ?_
              refine wr_round ?_
              refine wc_seq ?_
              refine wc_region ?_
              refine wl_val (.bool true) rfl (fun w => run_cmp rfl rfl rfl Try.underlying3 rfl w) ?_
              simp only [Act.put, List.setIfInBounds_toArray, List.set_cons_zero, List.set_cons_succ]
              refine wl_nil ?_
              refine we_then ?_
              refine wc_seq ?_
              refine wc_true rfl ?_
              refine wc_skip ?_
              refine we_then ?_
              refine wc_seq ?_
              refine wc_block ?_
              refine wc_seq ?_
              refine wc_region ?_
              refine wl_val (.int .i64 3) rfl (fun _ => rfl) ?_
              simp only [Act.put, List.setIfInBounds_toArray, List.set_cons_zero, List.set_cons_succ]
              refine wl_val (.int .i64 3) rfl (fun _ => rfl) ?_
              simp only [Act.put, List.setIfInBounds_toArray, List.set_cons_zero, List.set_cons_succ]
              refine wl_nil ?_
              refine we_then ?_
              refine wc_region ?_
              refine wl_val (.int .i64 ((((0 * 256 + (((L.take (L.length - 2))[3]!).toNat)) * 256 + (((L.take (L.length - 2))[4]!).toNat)) * 256 + (((L.take (L.length - 2))[5]!).toNat) : Nat) : Int)) rfl (fun _ => rfl) ?_
              simp only [Act.put, List.setIfInBounds_toArray, List.set_cons_zero, List.set_cons_succ]
              refine wl_val (.int .i64 (((((0 * 256 + (((L.take (L.length - 2))[3]!).toNat)) * 256 + (((L.take (L.length - 2))[4]!).toNat)) * 256 + (((L.take (L.length - 2))[5]!).toNat)) * 256 : Nat) : Int)) rfl (fun w => run_sal (X := ((0 * 256 + (((L.take (L.length - 2))[3]!).toNat)) * 256 + (((L.take (L.length - 2))[4]!).toNat)) * 256 + (((L.take (L.length - 2))[5]!).toNat)) 8 256 (by decide) (by decide) (by omega) rfl rfl rfl w) ?_
              simp only [Act.put, List.setIfInBounds_toArray, List.set_cons_zero, List.set_cons_succ]
              refine wl_val (.slice (some ⟨g19, 0, none⟩) (L.length - 2) (L.length - 2)) rfl (fun _ => rfl) ?_
              simp only [Act.put, List.setIfInBounds_toArray, List.set_cons_zero, List.set_cons_succ]
              refine wl_val (.int .i64 3) rfl (fun _ => rfl) ?_
              simp only [Act.put, List.setIfInBounds_toArray, List.set_cons_zero, List.set_cons_succ]
              refine wl_val (.int .i64 6) rfl (fun w => run_nat (X := 3) (Y := 3) (Z := 6) rfl rfl rfl rfl (by omega) w) ?_
              simp only [Act.put, List.setIfInBounds_toArray, List.set_cons_zero, List.set_cons_succ]
              refine wl_read (eaddr (some ⟨g19, 0, none⟩) (6 * 1)) rfl (er_index 6 1 (sl_mk 0 (L := L.take (L.length - 2)) rfl) rfl rfl rfl rfl (by omega) (ub_len1 (ub_take_len rfl (by omega))) (by decide) Try.underlying45 (by kernel_rfl)) ?_
              simp only [Act.put, List.setIfInBounds_toArray, List.set_cons_zero, List.set_cons_succ]
              refine wl_read (.int .u8 (((L.take (L.length - 2))[6]!).toNat : Int)) rfl (er_cell (6 * 1) (.int .u8 (((L.take (L.length - 2))[6]!).toNat : Int)) (sl_mk 0 (L := L.take (L.length - 2)) rfl) rfl rfl (flat_cell (enc := ub) (fun _ => rfl) (L.take (L.length - 2)) 6 0 (by omega) (by decide)) Try.isAgg5) ?_
              simp only [Act.put, List.setIfInBounds_toArray, List.set_cons_zero, List.set_cons_succ]
              have q23 : ((L.take (L.length - 2))[6]!).toNat < 256 := (((L.take (L.length - 2))[6]!).toBitVec).isLt
              refine wl_val (.int .i64 ((((L.take (L.length - 2))[6]!).toNat : Nat) : Int)) rfl (fun w => run_conv (X := (((L.take (L.length - 2))[6]!).toNat : Int)) rfl rfl Try.underlying5 Try.underlying2 (i64_in (by omega) (by omega)) w) ?_
              simp only [Act.put, List.setIfInBounds_toArray, List.set_cons_zero, List.set_cons_succ]
              refine wl_val (.int .i64 (((((0 * 256 + (((L.take (L.length - 2))[3]!).toNat)) * 256 + (((L.take (L.length - 2))[4]!).toNat)) * 256 + (((L.take (L.length - 2))[5]!).toNat)) * 256 + (((L.take (L.length - 2))[6]!).toNat) : Nat) : Int)) rfl (fun w => run_orn (X := (((0 * 256 + (((L.take (L.length - 2))[3]!).toNat)) * 256 + (((L.take (L.length - 2))[4]!).toNat)) * 256 + (((L.take (L.length - 2))[5]!).toNat)) * 256) (Y := ((L.take (L.length - 2))[6]!).toNat) (or_byte (((0 * 256 + (((L.take (L.length - 2))[3]!).toNat)) * 256 + (((L.take (L.length - 2))[4]!).toNat)) * 256 + (((L.take (L.length - 2))[5]!).toNat)) (((L.take (L.length - 2))[6]!).toNat) (by omega)) (by omega) (by omega) rfl rfl rfl w) ?_
              simp only [Act.put, List.setIfInBounds_toArray, List.set_cons_zero, List.set_cons_succ]
              refine wl_val (.int .i64 (((((0 * 256 + (((L.take (L.length - 2))[3]!).toNat)) * 256 + (((L.take (L.length - 2))[4]!).toNat)) * 256 + (((L.take (L.length - 2))[5]!).toNat)) * 256 + (((L.take (L.length - 2))[6]!).toNat) : Nat) : Int)) rfl (fun _ => rfl) ?_
              simp only [Act.put, List.setIfInBounds_toArray, List.set_cons_zero, List.set_cons_succ]
              refine wl_nil ?_
              refine we_in ?_
              refine we_then ?_
              refine wc_region ?_
              refine wl_val (.int .i64 4) rfl (fun w => run_nat (X := 3) (Y := 1) (Z := 4) rfl rfl rfl rfl (by omega) w) ?_
              simp only [Act.put, List.setIfInBounds_toArray, List.set_cons_zero, List.set_cons_succ]
              refine wl_val (.int .i64 4) rfl (fun _ => rfl) ?_
              simp only [Act.put, List.setIfInBounds_toArray, List.set_cons_zero, List.set_cons_succ]
              refine wl_nil ?_
              refine we_round ?_
              refine wr_round ?_
              refine wc_seq ?_
              refine wc_region ?_
              refine wl_val (.bool false) rfl (fun w => run_cmp rfl rfl rfl Try.underlying3 rfl w) ?_
              simp only [Act.put, List.setIfInBounds_toArray, List.set_cons_zero, List.set_cons_succ]
              refine wl_nil ?_
              refine we_then ?_
              refine wc_seq ?_
              refine wc_false rfl ?_
              refine wc_exit ?_
              refine we_then_exit ?_
              refine we_then_exit ?_
              refine we_in_here ?_
              refine we_then ?_
              refine wc_seq ?_
              refine wc_seq ?_
              refine wc_region ?_
              refine wl_val (.int .i64 (((((0 * 256 + (((L.take (L.length - 2))[3]!).toNat)) * 256 + (((L.take (L.length - 2))[4]!).toNat)) * 256 + (((L.take (L.length - 2))[5]!).toNat)) * 256 + (((L.take (L.length - 2))[6]!).toNat) : Nat) : Int)) rfl (fun _ => rfl) ?_
              simp only [Act.put, List.setIfInBounds_toArray, List.set_cons_zero, List.set_cons_succ]
              refine wl_val (.int .i64 2147483647) rfl (fun _ => rfl) ?_
              simp only [Act.put, List.setIfInBounds_toArray, List.set_cons_zero, List.set_cons_succ]
              refine wl_val (.bool (decide (2147483647 < (((((0 * 256 + (((L.take (L.length - 2))[3]!).toNat)) * 256 + (((L.take (L.length - 2))[4]!).toNat)) * 256 + (((L.take (L.length - 2))[5]!).toNat)) * 256 + (((L.take (L.length - 2))[6]!).toNat) : Nat) : Int)))) rfl (fun w => run_cmp rfl rfl rfl Try.underlying2 rfl w) ?_
              simp only [Act.put, List.setIfInBounds_toArray, List.set_cons_zero, List.set_cons_succ]
              refine wl_nil ?_
              refine we_then ?_
              cases h24 : (decide (2147483647 < (((((0 * 256 + (((L.take (L.length - 2))[3]!).toNat)) * 256 + (((L.take (L.length - 2))[4]!).toNat)) * 256 + (((L.take (L.length - 2))[5]!).toNat)) * 256 + (((L.take (L.length - 2))[6]!).toNat) : Nat) : Int)))
              · skip
                have p24 : ¬ (2147483647 < (((((0 * 256 + (((L.take (L.length - 2))[3]!).toNat)) * 256 + (((L.take (L.length - 2))[4]!).toNat)) * 256 + (((L.take (L.length - 2))[5]!).toNat)) * 256 + (((L.take (L.length - 2))[6]!).toNat) : Nat) : Int)) := of_decide_eq_false h24
                refine wc_false rfl ?_
                refine wc_skip ?_
                refine we_then ?_
                refine wc_seq ?_
                refine wc_region ?_
                refine wl_val (.int .i64 (((L[0]!).toNat : Nat) : Int)) rfl (fun _ => rfl) ?_
                simp only [Act.put, List.setIfInBounds_toArray, List.set_cons_zero, List.set_cons_succ]
                refine wl_val (.slice p L.length c) rfl (fun _ => rfl) ?_
                simp only [Act.put, List.setIfInBounds_toArray, List.set_cons_zero, List.set_cons_succ]
                refine wl_read (eaddr p (1 * 1)) rfl (er_index 1 1 (sl_old hL) rfl rfl rfl rfl (by omega) (ub_len1 rfl) (by decide) Try.underlying45 (by kernel_rfl)) ?_
                simp only [Act.put, List.setIfInBounds_toArray, List.set_cons_zero, List.set_cons_succ]
                refine wl_read (.int .u8 ((L[1]!).toNat : Int)) rfl (er_cell (1 * 1) (.int .u8 ((L[1]!).toNat : Int)) (sl_old hL) rfl rfl (flat_cell (enc := ub) (fun _ => rfl) L 1 0 (by omega) (by decide)) Try.isAgg5) ?_
                simp only [Act.put, List.setIfInBounds_toArray, List.set_cons_zero, List.set_cons_succ]
                have q25 : (L[1]!).toNat < 256 := ((L[1]!).toBitVec).isLt
                refine wl_val (.int .i64 (((L[1]!).toNat : Nat) : Int)) rfl (fun w => run_conv (X := ((L[1]!).toNat : Int)) rfl rfl Try.underlying5 Try.underlying3 (i64_in (by omega) (by omega)) w) ?_
                simp only [Act.put, List.setIfInBounds_toArray, List.set_cons_zero, List.set_cons_succ]
                refine wl_val (.int .i64 (((((0 * 256 + (((L.take (L.length - 2))[3]!).toNat)) * 256 + (((L.take (L.length - 2))[4]!).toNat)) * 256 + (((L.take (L.length - 2))[5]!).toNat)) * 256 + (((L.take (L.length - 2))[6]!).toNat) : Nat) : Int)) rfl (fun _ => rfl) ?_
                simp only [Act.put, List.setIfInBounds_toArray, List.set_cons_zero, List.set_cons_succ]
                refine wl_val (.agg #[.int .i64 (((L[0]!).toNat : Nat) : Int), .int .i64 (((L[1]!).toNat : Nat) : Int), .int .i64 (((((0 * 256 + (((L.take (L.length - 2))[3]!).toNat)) * 256 + (((L.take (L.length - 2))[4]!).toNat)) * 256 + (((L.take (L.length - 2))[5]!).toNat)) * 256 + (((L.take (L.length - 2))[6]!).toNat) : Nat) : Int)]) rfl (fun _ => by go_simp) ?_
                simp only [Act.put, List.setIfInBounds_toArray, List.set_cons_zero, List.set_cons_succ]
                refine wl_store 1 43 (.tmp 2) (.tmp 79) (#[.int .i64 (((L[0]!).toNat : Nat) : Int), .int .i64 (((L[1]!).toNat : Nat) : Int), .int .i64 (((((0 * 256 + (((L.take (L.length - 2))[3]!).toNat)) * 256 + (((L.take (L.length - 2))[4]!).toNat)) * 256 + (((L.take (L.length - 2))[5]!).toNat)) * 256 + (((L.take (L.length - 2))[6]!).toNat) : Nat) : Int)]) rfl rfl rfl rfl rfl (by kernel_rfl) rfl (by simp [Value.oneCell']) ?_
                simp only [Act.put, List.set_cons_zero, List.set_cons_succ]
                refine wl_val (.int .i64 0) rfl (fun _ => rfl) ?_
                simp only [Act.put, List.setIfInBounds_toArray, List.set_cons_zero, List.set_cons_succ]
                refine wl_nil ?_
                refine we_then ?_
                refine wc_ret ?_
                refine we_ret_cell_tmp (.int .i64 0) (own_row 1 rfl) rfl rfl rfl rfl Try.underlying43 rfl (by kernel_rfl) (fun w1 hE => ?_)
                have e0 := get_good (L := L) (by omega) (by omega) (by omega) (by omega) h18
                have e1 := getV4 (L := L) (by omega) (by omega)
                unfold low at e1
                rw [if_neg (by unfold nat4; omega)] at e1
                exact ⟨by rw [getF_yes e0, e0, e1]; rfl, hE.below⟩
              · skip
                have p24 : 2147483647 < (((((0 * 256 + (((L.take (L.length - 2))[3]!).toNat)) * 256 + (((L.take (L.length - 2))[4]!).toNat)) * 256 + (((L.take (L.length - 2))[5]!).toNat)) * 256 + (((L.take (L.length - 2))[6]!).toNat) : Nat) : Int) := of_decide_eq_true h24
                refine wc_true rfl ?_
                refine wc_region ?_
                refine wl_val (.int .i64 (((((0 * 256 + (((L.take (L.length - 2))[3]!).toNat)) * 256 + (((L.take (L.length - 2))[4]!).toNat)) * 256 + (((L.take (L.length - 2))[5]!).toNat)) * 256 + (((L.take (L.length - 2))[6]!).toNat) : Nat) : Int)) rfl (fun _ => rfl) ?_
                simp only [Act.put, List.setIfInBounds_toArray, List.set_cons_zero, List.set_cons_succ]
                refine wl_val (.int .i64 4) rfl (fun _ => rfl) ?_
                simp only [Act.put, List.setIfInBounds_toArray, List.set_cons_zero, List.set_cons_succ]
                refine wl_val (.int .i64 32) rfl (fun w => run_nat (X := 8) (Y := 4) (Z := 32) rfl rfl rfl rfl (by omega) w) ?_
                simp only [Act.put, List.setIfInBounds_toArray, List.set_cons_zero, List.set_cons_succ]
                refine wl_val (.int .i64 4294967296) rfl (fun w => run_sal (X := 1) 32 4294967296 (by decide) (by decide) (by omega) rfl rfl rfl w) ?_
                simp only [Act.put, List.setIfInBounds_toArray, List.set_cons_zero, List.set_cons_succ]
                refine wl_val (.int .i64 ((((((0 * 256 + (((L.take (L.length - 2))[3]!).toNat)) * 256 + (((L.take (L.length - 2))[4]!).toNat)) * 256 + (((L.take (L.length - 2))[5]!).toNat)) * 256 + (((L.take (L.length - 2))[6]!).toNat) : Nat) : Int) - 4294967296)) rfl (fun w => run_arith (op := .sub) rfl rfl rfl Try.underlying2 (congrArg some (i64_in (by omega) (by omega))) w) ?_
                simp only [Act.put, List.setIfInBounds_toArray, List.set_cons_zero, List.set_cons_succ]
                refine wl_val (.int .i64 ((((((0 * 256 + (((L.take (L.length - 2))[3]!).toNat)) * 256 + (((L.take (L.length - 2))[4]!).toNat)) * 256 + (((L.take (L.length - 2))[5]!).toNat)) * 256 + (((L.take (L.length - 2))[6]!).toNat) : Nat) : Int) - 4294967296)) rfl (fun _ => rfl) ?_
                simp only [Act.put, List.setIfInBounds_toArray, List.set_cons_zero, List.set_cons_succ]
                refine wl_nil ?_
                refine we_then ?_
                refine wc_seq ?_
                refine wc_region ?_
                refine wl_val (.int .i64 (((L[0]!).toNat : Nat) : Int)) rfl (fun _ => rfl) ?_
                simp only [Act.put, List.setIfInBounds_toArray, List.set_cons_zero, List.set_cons_succ]
                refine wl_val (.slice p L.length c) rfl (fun _ => rfl) ?_
                simp only [Act.put, List.setIfInBounds_toArray, List.set_cons_zero, List.set_cons_succ]
                refine wl_read (eaddr p (1 * 1)) rfl (er_index 1 1 (sl_old hL) rfl rfl rfl rfl (by omega) (ub_len1 rfl) (by decide) Try.underlying45 (by kernel_rfl)) ?_
                simp only [Act.put, List.setIfInBounds_toArray, List.set_cons_zero, List.set_cons_succ]
                refine wl_read (.int .u8 ((L[1]!).toNat : Int)) rfl (er_cell (1 * 1) (.int .u8 ((L[1]!).toNat : Int)) (sl_old hL) rfl rfl (flat_cell (enc := ub) (fun _ => rfl) L 1 0 (by omega) (by decide)) Try.isAgg5) ?_
                simp only [Act.put, List.setIfInBounds_toArray, List.set_cons_zero, List.set_cons_succ]
                have q26 : (L[1]!).toNat < 256 := ((L[1]!).toBitVec).isLt
                refine wl_val (.int .i64 (((L[1]!).toNat : Nat) : Int)) rfl (fun w => run_conv (X := ((L[1]!).toNat : Int)) rfl rfl Try.underlying5 Try.underlying3 (i64_in (by omega) (by omega)) w) ?_
                simp only [Act.put, List.setIfInBounds_toArray, List.set_cons_zero, List.set_cons_succ]
                refine wl_val (.int .i64 ((((((0 * 256 + (((L.take (L.length - 2))[3]!).toNat)) * 256 + (((L.take (L.length - 2))[4]!).toNat)) * 256 + (((L.take (L.length - 2))[5]!).toNat)) * 256 + (((L.take (L.length - 2))[6]!).toNat) : Nat) : Int) - 4294967296)) rfl (fun _ => rfl) ?_
                simp only [Act.put, List.setIfInBounds_toArray, List.set_cons_zero, List.set_cons_succ]
                refine wl_val (.agg #[.int .i64 (((L[0]!).toNat : Nat) : Int), .int .i64 (((L[1]!).toNat : Nat) : Int), .int .i64 ((((((0 * 256 + (((L.take (L.length - 2))[3]!).toNat)) * 256 + (((L.take (L.length - 2))[4]!).toNat)) * 256 + (((L.take (L.length - 2))[5]!).toNat)) * 256 + (((L.take (L.length - 2))[6]!).toNat) : Nat) : Int) - 4294967296)]) rfl (fun _ => by go_simp) ?_
                simp only [Act.put, List.setIfInBounds_toArray, List.set_cons_zero, List.set_cons_succ]
                refine wl_store 1 43 (.tmp 2) (.tmp 79) (#[.int .i64 (((L[0]!).toNat : Nat) : Int), .int .i64 (((L[1]!).toNat : Nat) : Int), .int .i64 ((((((0 * 256 + (((L.take (L.length - 2))[3]!).toNat)) * 256 + (((L.take (L.length - 2))[4]!).toNat)) * 256 + (((L.take (L.length - 2))[5]!).toNat)) * 256 + (((L.take (L.length - 2))[6]!).toNat) : Nat) : Int) - 4294967296)]) rfl rfl rfl rfl rfl (by kernel_rfl) rfl (by simp [Value.oneCell']) ?_
                simp only [Act.put, List.set_cons_zero, List.set_cons_succ]
                refine wl_val (.int .i64 0) rfl (fun _ => rfl) ?_
                simp only [Act.put, List.setIfInBounds_toArray, List.set_cons_zero, List.set_cons_succ]
                refine wl_nil ?_
                refine we_then ?_
                refine wc_ret ?_
                refine we_ret_cell_tmp (.int .i64 0) (own_row 1 rfl) rfl rfl rfl rfl Try.underlying43 rfl (by kernel_rfl) (fun w1 hE => ?_)
                have e0 := get_good (L := L) (by omega) (by omega) (by omega) (by omega) h18
                have e1 := getV4 (L := L) (by omega) (by omega)
                unfold low at e1
                rw [if_pos ⟨rfl, by unfold nat4; omega⟩] at e1
                exact ⟨by rw [getF_yes e0, e0, e1]; rfl, hE.below⟩
          · skip
            have p17 : (L.length : Int) ≠ 9 := by simpa using h17
            refine wc_true rfl ?_
            refine wc_seq ?_
            refine wc_region ?_
            refine wl_val (.agg #[.int .i64 0, .int .i64 0, .int .i64 0]) rfl (fun _ => by go_simp) ?_
            simp only [Act.put, List.setIfInBounds_toArray, List.set_cons_zero, List.set_cons_succ]
            refine wl_store 0 43 (.tmp 2) (.tmp 42) (#[.int .i64 0, .int .i64 0, .int .i64 0]) rfl rfl rfl rfl rfl (by kernel_rfl) rfl (by simp [Value.oneCell']) ?_
            simp only [Act.put, List.set_cons_zero]
            refine wl_val (.int .i64 11) rfl (fun _ => rfl) ?_
            simp only [Act.put, List.setIfInBounds_toArray, List.set_cons_zero, List.set_cons_succ]
            refine wl_nil ?_
            refine we_then ?_
            refine wc_ret ?_
            refine we_then_ret ?_
            refine we_ret_cell_tmp (.int .i64 11) (own_row 0 rfl) rfl rfl rfl rfl Try.underlying43 rfl (by kernel_rfl) (fun w1 hE => ?_)
            have e1 := get_form (L := L) (by omega) (by omega) (by omega)
            exact ⟨by rw [getF_no e1 (by decide), e1]; rfl, hE.below⟩
        · skip
          have p16 : (((L[2]!).toNat : Nat) : Int) ≠ 4 := by simpa using h16
          refine wl_skip rfl ?_
          simp only [Act.put, List.setIfInBounds_toArray, List.set_cons_zero, List.set_cons_succ]
          refine wl_skip rfl ?_
          simp only [Act.put, List.setIfInBounds_toArray, List.set_cons_zero, List.set_cons_succ]
          refine wl_skip rfl ?_
          simp only [Act.put, List.setIfInBounds_toArray, List.set_cons_zero, List.set_cons_succ]
          refine wl_skip rfl ?_
          simp only [Act.put, List.setIfInBounds_toArray, List.set_cons_zero, List.set_cons_succ]
          refine wl_skip rfl ?_
          simp only [Act.put, List.setIfInBounds_toArray, List.set_cons_zero, List.set_cons_succ]
          refine wl_val (.bool true) rfl (fun _ => rfl) ?_
          simp only [Act.put, List.setIfInBounds_toArray, List.set_cons_zero, List.set_cons_succ]
          refine wl_nil ?_
          refine we_then ?_
          refine wc_true rfl ?_
          refine wc_seq ?_
          refine wc_region ?_
          refine wl_val (.agg #[.int .i64 0, .int .i64 0, .int .i64 0]) rfl (fun _ => by go_simp) ?_
          simp only [Act.put, List.setIfInBounds_toArray, List.set_cons_zero, List.set_cons_succ]
          refine wl_store 0 43 (.tmp 2) (.tmp 42) (#[.int .i64 0, .int .i64 0, .int .i64 0]) rfl rfl rfl rfl rfl (by kernel_rfl) rfl (by simp [Value.oneCell']) ?_
          simp only [Act.put, List.set_cons_zero]
          refine wl_val (.int .i64 11) rfl (fun _ => rfl) ?_
          simp only [Act.put, List.setIfInBounds_toArray, List.set_cons_zero, List.set_cons_succ]
          refine wl_nil ?_
          refine we_then ?_
          refine wc_ret ?_
          refine we_then_ret ?_
          refine we_ret_cell_tmp (.int .i64 11) (own_row 0 rfl) rfl rfl rfl rfl Try.underlying43 rfl (by kernel_rfl) (fun w1 hE => ?_)
          have e1 := get_form (L := L) (by omega) (by omega) (by omega)
          exact ⟨by rw [getF_no e1 (by decide), e1]; rfl, hE.below⟩
    · skip
      have p4 : ksize (hd L) = 0 := by simpa using h4
      refine wl_call 18 #[.int .i64 (((L[0]!).toNat : Nat) : Int)] (.tuple #[.int .i64 0, .int .i64 0, .int .i64 0]) rfl (fun _ => by go_simp) (fun W => values_none (hd L) (by omega) W) ?_
      simp only [Act.put, List.setIfInBounds_toArray, List.set_cons_zero, List.set_cons_succ]
      refine wl_val (.tuple #[.int .i64 0, .int .i64 0, .int .i64 0]) rfl (fun _ => rfl) ?_
      simp only [Act.put, List.setIfInBounds_toArray, List.set_cons_zero, List.set_cons_succ]
      refine wl_val (.int .i64 0) rfl (fun _ => by go_simp) ?_
      simp only [Act.put, List.setIfInBounds_toArray, List.set_cons_zero, List.set_cons_succ]
      refine wl_val (.int .i64 0) rfl (fun _ => by go_simp) ?_
      simp only [Act.put, List.setIfInBounds_toArray, List.set_cons_zero, List.set_cons_succ]
      refine wl_val (.int .i64 0) rfl (fun _ => by go_simp) ?_
      simp only [Act.put, List.setIfInBounds_toArray, List.set_cons_zero, List.set_cons_succ]
      refine wl_val (.int .i64 0) rfl (fun _ => rfl) ?_
      simp only [Act.put, List.setIfInBounds_toArray, List.set_cons_zero, List.set_cons_succ]
      refine wl_val (.int .i64 0) rfl (fun _ => rfl) ?_
      simp only [Act.put, List.setIfInBounds_toArray, List.set_cons_zero, List.set_cons_succ]
      refine wl_val (.int .i64 0) rfl (fun _ => rfl) ?_
      simp only [Act.put, List.setIfInBounds_toArray, List.set_cons_zero, List.set_cons_succ]
      refine wl_nil ?_
      refine we_then ?_
      refine wc_seq ?_
      refine wc_seq ?_
      refine wc_region ?_
      refine wl_val (.int .i64 0) rfl (fun _ => rfl) ?_
      simp only [Act.put, List.setIfInBounds_toArray, List.set_cons_zero, List.set_cons_succ]
      refine wl_val (.bool true) rfl (fun w => run_cmp rfl rfl rfl Try.underlying3 rfl w) ?_
      simp only [Act.put, List.setIfInBounds_toArray, List.set_cons_zero, List.set_cons_succ]
      refine wl_nil ?_
      refine we_then ?_
      refine wc_true rfl ?_
      refine wc_seq ?_
      refine wc_region ?_
      refine wl_val (.agg #[.int .i64 0, .int .i64 0, .int .i64 0]) rfl (fun _ => by go_simp) ?_
      simp only [Act.put, List.setIfInBounds_toArray, List.set_cons_zero, List.set_cons_succ]
      refine wl_store 0 43 (.tmp 2) (.tmp 28) (#[.int .i64 0, .int .i64 0, .int .i64 0]) rfl rfl rfl rfl rfl (by kernel_rfl) rfl (by simp [Value.oneCell']) ?_
      simp only [Act.put, List.set_cons_zero]
      refine wl_val (.int .i64 30) rfl (fun _ => rfl) ?_
      simp only [Act.put, List.setIfInBounds_toArray, List.set_cons_zero, List.set_cons_succ]
      refine wl_nil ?_
      refine we_then ?_
      refine wc_ret ?_
      refine we_then_ret ?_
      refine we_ret_cell_tmp (.int .i64 30) (own_row 0 rfl) rfl rfl rfl rfl Try.underlying43 rfl (by kernel_rfl) (fun w1 hE => ?_)
      have e1 := get_kind (L := L) (by omega) (by omega)
      exact ⟨by rw [getF_no e1 (by decide), e1]; rfl, hE.below⟩
  · skip
    have p2 : (L.length : Int) < 5 := of_decide_eq_true h2
    refine wc_true rfl ?_
    refine wc_seq ?_
    refine wc_region ?_
    refine wl_val (.agg #[.int .i64 0, .int .i64 0, .int .i64 0]) rfl (fun _ => by go_simp) ?_
    simp only [Act.put, List.setIfInBounds_toArray, List.set_cons_zero, List.set_cons_succ]
    refine wl_store 0 43 (.tmp 2) (.tmp 15) (#[.int .i64 0, .int .i64 0, .int .i64 0]) rfl rfl rfl rfl rfl (by kernel_rfl) rfl (by simp [Value.oneCell']) ?_
    simp only [Act.put, List.set_cons_zero]
    refine wl_val (.int .i64 14) rfl (fun _ => rfl) ?_
    simp only [Act.put, List.setIfInBounds_toArray, List.set_cons_zero, List.set_cons_succ]
    refine wl_nil ?_
    refine we_then ?_
    refine wc_ret ?_
    refine we_then_ret ?_
    refine we_ret_cell_tmp (.int .i64 14) (own_row 0 rfl) rfl rfl rfl rfl Try.underlying43 rfl (by kernel_rfl) (fun w1 hE => ?_)
    have e1 := get_short (L := L) (by omega)
    exact ⟨by rw [getF_no e1 (by decide), e1]; rfl, hE.below⟩
theorem get_at (L : List UInt8) (p : Option Addr) (n c : Nat) (w : World) (hl : L.length = n) (hL : Reads w p (flat ub L)) (hn : n ≤ 1000000) (hc : n ≤ c) :
    Calls Try.prog 16 #[.slice p n c] w fun e w' => e = .returned (.tuple #[.agg #[.int .i64 (getF L).1, .int .i64 (getF L).2.1, .int .i64 (getF L).2.2], .int .i64 ((getE L : Nat) : Int)]) ∧ Below w.heap.size w w' := by
  subst hl
  exact get_any L p c w hL hn hc
end Go.Proofs.Ytggdmchhnnjfiaa.Frm
