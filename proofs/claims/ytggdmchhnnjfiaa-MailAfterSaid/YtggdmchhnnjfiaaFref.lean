/-
  The reference of layer 7 (a frame's bytes, the frame of bytes). Condition: at most a million bytes.
-/
import Derived.Test.YtggdmchhnnjfiaaCref
import Derived.Test.YtggdmchhnnjfiaaFr
namespace Go.Proofs.Ytggdmchhnnjfiaa.Fref
open Go.ChangeShapes Go.WideShapes Go.ChangeAt Go.RowKit
open Arr Steady Sx Sw Sl Sb Cr Cref Fr
set_option linter.unusedVariables false
set_option linter.unusedSimpArgs false
set_option maxRecDepth 100000

theorem size_at (k : Int) (h1 : 1 ≤ k) (h5 : k ≤ 5) : (#[.int .i64 0, .int .i64 2, .int .i64 2, .int .i64 4, .int .i64 4, .int .i64 2] : Array Value)[k.toNat]? = some (.int .i64 ((ksize k : Nat) : Int)) := by
  rcases (show k = 1 ∨ k = 2 ∨ k = 3 ∨ k = 4 ∨ k = 5 by omega) with rfl | rfl | rfl | rfl | rfl <;> rfl
theorem size_no (k : Int) (h : k < 1 ∨ 5 < k) : ksize k = 0 := by
  rcases ksize_three k with e | e | e
  · exact e
  · exact absurd (ksize_pos (k := k) (by omega)) (by omega)
  · exact absurd (ksize_pos (k := k) (by omega)) (by omega)
set_option maxHeartbeats 2000000 in
theorem size_any (k : Int) (w : World) :
    Calls Try.prog 21 #[.int .i64 k] w fun e w' => e = .returned (.int .i64 ((ksize k : Nat) : Int)) ∧ Below w.heap.size w w' := by
  refine calls_sx Try.func21 rfl ?_
  simp only [Try.ntmps21, List.size_toArray, List.length_cons, List.length_nil, Nat.reduceAdd, Nat.reduceSub, Array.replicate_succ, Array.replicate_zero, List.push_toArray, List.append_toArray, List.nil_append, List.cons_append]
  refine wc_seq ?_
  refine wc_region ?_
  refine wl_val (.int .i64 0) rfl (fun _ => rfl) ?_
  simp only [Act.put, List.setIfInBounds_toArray, List.set_cons_zero, List.set_cons_succ]
  refine wl_nil ?_
  refine we_then ?_
  refine wc_seq ?_
  refine wc_region ?_
  refine wl_val (.agg #[.int .i64 0, .int .i64 2, .int .i64 2, .int .i64 4, .int .i64 4, .int .i64 2]) rfl (fun _ => by go_simp) ?_
  simp only [Act.put, List.setIfInBounds_toArray, List.set_cons_zero, List.set_cons_succ]
  refine wl_new 30 (#[.int .i64 0, .int .i64 0, .int .i64 0, .int .i64 0, .int .i64 0, .int .i64 0]) rfl (fun _ => by go_simp) ?_
  intro g1
  simp only [Act.put, List.setIfInBounds_toArray, List.set_cons_zero, List.set_cons_succ]
  refine wl_store 0 30 (.tmp 3) (.tmp 4) (#[.int .i64 0, .int .i64 2, .int .i64 2, .int .i64 4, .int .i64 4, .int .i64 2]) rfl rfl rfl rfl rfl (by kernel_rfl) rfl (by simp [Value.oneCell']) ?_
  simp only [Act.put, List.set_cons_zero]
  refine wl_nil ?_
  refine we_then ?_
  refine wc_seq ?_
  refine wc_seq ?_
  refine wc_region ?_
  refine wl_val (.int .i64 k) rfl (fun _ => rfl) ?_
  simp only [Act.put, List.setIfInBounds_toArray, List.set_cons_zero, List.set_cons_succ]
  refine wl_val (.bool (decide (k < 1))) rfl (fun w => run_cmp rfl rfl rfl Try.underlying3 rfl w) ?_
  simp only [Act.put, List.setIfInBounds_toArray, List.set_cons_zero, List.set_cons_succ]
  refine wl_val (.bool (decide (k < 1))) rfl (fun _ => rfl) ?_
  simp only [Act.put, List.setIfInBounds_toArray, List.set_cons_zero, List.set_cons_succ]
  cases h2 : (decide (k < 1))
  · skip
    have p2 : ¬ (k < 1) := of_decide_eq_false h2
    refine wl_val (.int .i64 k) rfl (fun _ => rfl) ?_
    simp only [Act.put, List.setIfInBounds_toArray, List.set_cons_zero, List.set_cons_succ]
    refine wl_val (.bool (decide (5 < k))) rfl (fun w => run_cmp rfl rfl rfl Try.underlying3 rfl w) ?_
    simp only [Act.put, List.setIfInBounds_toArray, List.set_cons_zero, List.set_cons_succ]
    refine wl_val (.bool (decide (5 < k))) rfl (fun _ => rfl) ?_
    simp only [Act.put, List.setIfInBounds_toArray, List.set_cons_zero, List.set_cons_succ]
    refine wl_nil ?_
    refine we_then ?_
    cases h3 : (decide (5 < k))
    · skip
      have p3 : ¬ (5 < k) := of_decide_eq_false h3
      refine wc_false rfl ?_
      refine wc_skip ?_
      refine we_then ?_
      refine wc_seq ?_
      refine wc_region ?_
      refine wl_val (.int .i64 k) rfl (fun _ => rfl) ?_
      simp only [Act.put, List.setIfInBounds_toArray, List.set_cons_zero, List.set_cons_succ]
      refine wl_val (.pointer (some ⟨g1, k.toNat, none⟩)) rfl (fun w => er_arr (k := k.toNat) (m := k.toNat) 1 rfl rfl rfl (by omega) (by omega) (by omega) Try.underlying30 (by kernel_rfl) w) ?_
      simp only [Act.put, List.setIfInBounds_toArray, List.set_cons_zero, List.set_cons_succ]
      refine wl_cell 3 (.tmp 12) (.int .i64 ((ksize k : Nat) : Int)) (own_row 0 rfl) rfl rfl rfl (size_at k (by omega) (by omega)) Try.isAgg3 ?_
      simp only [Act.put, List.setIfInBounds_toArray, List.set_cons_zero, List.set_cons_succ]
      refine wl_val (.int .i64 ((ksize k : Nat) : Int)) rfl (fun _ => rfl) ?_
      simp only [Act.put, List.setIfInBounds_toArray, List.set_cons_zero, List.set_cons_succ]
      refine wl_nil ?_
      refine we_then ?_
      refine wc_ret ?_
      refine we_ret1 (.int .i64 ((ksize k : Nat) : Int)) rfl rfl rfl (fun w1 hE => ?_)
      exact ⟨rfl, hE.below⟩
    · skip
      have p3 : 5 < k := of_decide_eq_true h3
      refine wc_true rfl ?_
      refine wc_seq ?_
      refine wc_region ?_
      refine wl_val (.int .i64 0) rfl (fun _ => rfl) ?_
      simp only [Act.put, List.setIfInBounds_toArray, List.set_cons_zero, List.set_cons_succ]
      refine wl_nil ?_
      refine we_then ?_
      refine wc_ret ?_
      refine we_then_ret ?_
      refine we_ret1 (.int .i64 0) rfl rfl rfl (fun w1 hE => ?_)
      exact ⟨by rw [size_no k (by omega)]; rfl, hE.below⟩
  · skip
    have p2 : k < 1 := of_decide_eq_true h2
    refine wl_skip rfl ?_
    simp only [Act.put, List.setIfInBounds_toArray, List.set_cons_zero, List.set_cons_succ]
    refine wl_skip rfl ?_
    simp only [Act.put, List.setIfInBounds_toArray, List.set_cons_zero, List.set_cons_succ]
    refine wl_val (.bool true) rfl (fun _ => rfl) ?_
    simp only [Act.put, List.setIfInBounds_toArray, List.set_cons_zero, List.set_cons_succ]
    refine wl_nil ?_
    refine we_then ?_
    refine wc_true rfl ?_
    refine wc_seq ?_
    refine wc_region ?_
    refine wl_val (.int .i64 0) rfl (fun _ => rfl) ?_
    simp only [Act.put, List.setIfInBounds_toArray, List.set_cons_zero, List.set_cons_succ]
    refine wl_nil ?_
    refine we_then ?_
    refine wc_ret ?_
    refine we_then_ret ?_
    refine we_ret1 (.int .i64 0) rfl rfl rfl (fun w1 hE => ?_)
    exact ⟨by rw [size_no k (by omega)]; rfl, hE.below⟩
theorem putE_kind {k s v : Int} (h : ksize k = 0) : putE k s v = 30 := by unfold putE; rw [if_pos h]
theorem putE_ok4 {k s v : Int} (h : ksize k = 4) (h0 : 0 ≤ s) (h1 : s ≤ 255) (h2 : -2147483648 ≤ v) (h3 : v ≤ 2147483647) : putE k s v = 0 := by
  unfold putE inR
  rw [h, if_neg (show ¬ (4 = 0) by decide)]
  simp only [if_true]
  rw [if_pos]
  simp only [Bool.and_eq_true, decide_eq_true_eq]
  omega
theorem putE_ok2 {k s v : Int} (h : ksize k ≠ 0) (h4 : ksize k ≠ 4) (h0 : 0 ≤ s) (h1 : s ≤ 255) (h2 : 0 ≤ v) (h3 : v ≤ 65535) : putE k s v = 0 := by
  unfold putE inR
  rw [if_neg h, if_neg h4, if_neg h4]
  rw [if_pos]
  simp only [Bool.and_eq_true, decide_eq_true_eq]
  omega
theorem putE_bad4 {k s v : Int} (h : ksize k = 4) (hb : s < 0 ∨ 255 < s ∨ v < -2147483648 ∨ 2147483647 < v) : putE k s v = 10 := by
  unfold putE inR
  rw [h, if_neg (show ¬ (4 = 0) by decide)]
  simp only [if_true]
  rw [if_neg]
  simp only [Bool.and_eq_true, decide_eq_true_eq]
  omega
theorem putE_bad2 {k s v : Int} (h : ksize k ≠ 0) (h4 : ksize k ≠ 4) (hb : s < 0 ∨ 255 < s ∨ v < 0 ∨ 65535 < v) : putE k s v = 10 := by
  unfold putE inR
  rw [if_neg h, if_neg h4, if_neg h4]
  rw [if_neg]
  simp only [Bool.and_eq_true, decide_eq_true_eq]
  omega
theorem put_fin {k s v : Int} {X : List UInt8} (hX : X = body k s v) : X ++ [by8 (((crc 65535#16 X).toNat / 256 : Nat) : Int), by8 (((crc 65535#16 X).toNat % 256 : Nat) : Int)] = putL k s v := by
  subst hX
  rw [hib_nat, lob_nat]
  rfl
theorem body4 {k s v u : Int} (h : ksize k = 4) (hu : lift v = u) : [by8 k, by8 s, by8 ((ksize k : Nat) : Int)] ++ [by8 (u / 16777216), by8 (u / 65536 % 256)] ++ [by8 (u / 256 % 256), by8 (u % 256)] = body k s v := by
  unfold body
  rw [if_pos h, hu]
theorem body2 {k s v u : Int} (h : ksize k ≠ 4) (hu : lift v = u) : [by8 k, by8 s, by8 ((ksize k : Nat) : Int)] ++ [by8 (u / 256 % 256), by8 (u % 256)] = body k s v := by
  unfold body
  rw [if_neg h, hu, List.append_nil]
theorem lift_no {v : Int} (h : ¬ v < 0) : lift v = v := by unfold lift; rw [if_neg h]
theorem lift_yes {v : Int} (h : v < 0) : lift v = v + 4294967296 := by unfold lift; rw [if_pos h]
theorem get_short {L : List UInt8} (h : L.length < 5) : getE L = 14 := by unfold getE; rw [if_pos h]
theorem get_kind {L : List UInt8} (h5 : ¬ L.length < 5) (h : ksize (hd L) = 0) : getE L = 30 := by unfold getE; rw [if_neg h5, if_pos h]
theorem get_form {L : List UInt8} (h5 : ¬ L.length < 5) (h0 : ksize (hd L) ≠ 0) (h : (L[2]!).toNat ≠ ksize (hd L) ∨ L.length ≠ 5 + ksize (hd L)) : getE L = 11 := by unfold getE; rw [if_neg h5, if_neg h0, if_pos h]
theorem get_sum {L : List UInt8} (h5 : ¬ L.length < 5) (h0 : ksize (hd L) ≠ 0) (h2 : (L[2]!).toNat = ksize (hd L)) (hl : L.length = 5 + ksize (hd L)) (h : opens L = false) : getE L = 31 := by unfold getE; rw [if_neg h5, if_neg h0, if_neg (by omega), h]; rfl
theorem get_good {L : List UInt8} (h5 : ¬ L.length < 5) (h0 : ksize (hd L) ≠ 0) (h2 : (L[2]!).toNat = ksize (hd L)) (hl : L.length = 5 + ksize (hd L)) (h : opens L = true) : getE L = 0 := by unfold getE; rw [if_neg h5, if_neg h0, if_neg (by omega), h]; rfl
theorem getF_no {L : List UInt8} {n : Nat} (h : getE L = n) (hn : n ≠ 0) : getF L = (0, 0, 0) := by unfold getF; rw [if_neg (by omega)]
theorem getF_yes {L : List UInt8} (h : getE L = 0) : getF L = (hd L, ((L[1]!).toNat : Int), getV L) := by unfold getF; rw [if_pos h]
theorem num_snoc (M : List UInt8) (x : UInt8) : num (M ++ [x]) = 256 * num M + x.toNat := by unfold num; rw [List.foldl_append]; rfl
theorem num_lt (M : List UInt8) : num M < 256 ^ M.length := by
  obtain ⟨R, hR⟩ : ∃ R, R = M.reverse := ⟨_, rfl⟩
  have hM : M = R.reverse := by rw [hR, List.reverse_reverse]
  subst hM
  clear hR
  induction R with
  | nil => simp [num]
  | cons x r ih =>
    rw [List.reverse_cons, num_snoc, List.length_append, Nat.pow_add]
    have := x.toNat_lt
    simp only [List.length_cons, List.length_nil]
    omega
theorem num_next (L : List UInt8) (i : Nat) (h3 : 3 ≤ i) (h : i < L.length) : num ((L.drop 3).take (i + 1 - 3)) = 256 * num ((L.drop 3).take (i - 3)) + (L[i]!).toNat := by
  rw [show i + 1 - 3 = (i - 3) + 1 by omega, take_snoc (L.drop 3) (i - 3) (by rw [List.length_drop]; omega), num_snoc]
  have : (L.drop 3)[i - 3]! = L[i]! := by
    rw [getElem!_pos (L.drop 3) (i - 3) (by rw [List.length_drop]; omega), getElem!_pos L i h, List.getElem_drop]
    congr 1
    omega
  rw [this]
theorem num_small (L : List UInt8) (i n : Nat) (hi : i ≤ 3 + n) (hn : n ≤ 4) : num ((L.drop 3).take (i - 3)) < 4294967296 := by
  refine Nat.lt_of_lt_of_le (num_lt _) ?_
  have : ((L.drop 3).take (i - 3)).length ≤ 4 := by rw [List.length_take]; omega
  exact Nat.pow_le_pow_right (n := 256) (by decide) this
theorem own_ne (L : List UInt8) (n : Nat) (hl : L.length = 5 + n) : (((crc 65535#16 (L.take (3 + n))).toNat : Int) != (((L[3 + n]!).toNat * 256 + (L[4 + n]!).toNat : Nat) : Int)) = !opens L := by
  unfold opens
  have e := told_nat (L[L.length - 2]!) (L[L.length - 1]!)
  rw [show L.length - 2 = 3 + n by omega, show L.length - 1 = 4 + n by omega] at *
  rw [decide_eq_true (by omega), Bool.true_and, ← e, Bool.eq_iff_iff]
  simp only [bne_iff_ne, ne_eq, Bool.not_eq_true', beq_eq_false_iff_ne]
  constructor
  · intro h h2; exact h (by rw [h2])
  · intro h h2; exact h (BitVec.eq_of_toNat_eq (by omega))
set_option maxHeartbeats 2000000 in
theorem get_ref (L : List UInt8) (p : Option Addr) (c : Nat) (w : World) (hL : Reads w p (flat ub L)) (hn : L.length ≤ 1000000) (hc : L.length ≤ c) :
    Calls Try.prog 17 #[.slice p L.length c] w fun e w' => e = .returned (.tuple #[.agg #[.int .i64 (getF L).1, .int .i64 (getF L).2.1, .int .i64 (getF L).2.2], .int .i64 ((getE L : Nat) : Int)]) ∧ Below w.heap.size w w' := by
  have k3 := ksize_three (hd L)
  refine calls_sx Try.func17 rfl ?_
  simp only [Try.ntmps17, List.size_toArray, List.length_cons, List.length_nil, Nat.reduceAdd, Nat.reduceSub, Array.replicate_succ, Array.replicate_zero, List.push_toArray, List.append_toArray, List.nil_append, List.cons_append]
  refine wc_seq ?_
  refine wc_region ?_
  refine wl_new 53 (#[.int .i64 0, .int .i64 0, .int .i64 0]) rfl (fun _ => by go_simp) ?_
  intro g1
  simp only [Act.put, List.setIfInBounds_toArray, List.set_cons_zero, List.set_cons_succ]
  refine wl_val (.int .i64 0) rfl (fun _ => rfl) ?_
  simp only [Act.put, List.setIfInBounds_toArray, List.set_cons_zero, List.set_cons_succ]
  refine wl_nil ?_
  refine we_then ?_
  refine wc_seq ?_
  refine wc_seq ?_
  refine wc_region ?_
  refine wl_val (.slice p L.length c) rfl (fun _ => rfl) ?_
  simp only [Act.put, List.setIfInBounds_toArray, List.set_cons_zero, List.set_cons_succ]
  refine wl_val (.int .i64 (L.length : Int)) rfl (fun w => er_len rfl rfl Try.underlying45 w) ?_
  simp only [Act.put, List.setIfInBounds_toArray, List.set_cons_zero, List.set_cons_succ]
  refine wl_val (.bool (decide ((L.length : Int) < 5))) rfl (fun w => run_cmp rfl rfl rfl Try.underlying3 rfl w) ?_
  simp only [Act.put, List.setIfInBounds_toArray, List.set_cons_zero, List.set_cons_succ]
  refine wl_nil ?_
  refine we_then ?_
  cases h2 : (decide ((L.length : Int) < 5))
  · skip
    have p2 : ¬ ((L.length : Int) < 5) := of_decide_eq_false h2
    refine wc_false rfl ?_
    refine wc_skip ?_
    refine we_then ?_
    refine wc_seq ?_
    refine wc_region ?_
    refine wl_val (.slice p L.length c) rfl (fun _ => rfl) ?_
    simp only [Act.put, List.setIfInBounds_toArray, List.set_cons_zero, List.set_cons_succ]
    refine wl_read (eaddr p (0 * 1)) rfl (er_index 0 1 (sl_old hL) rfl rfl rfl rfl (by omega) (ub_len1 rfl) (by decide) Try.underlying45 (by kernel_rfl)) ?_
    simp only [Act.put, List.setIfInBounds_toArray, List.set_cons_zero, List.set_cons_succ]
    refine wl_read (.int .u8 ((L[0]!).toNat : Int)) rfl (er_cell (0 * 1) (.int .u8 ((L[0]!).toNat : Int)) (sl_old hL) rfl rfl (flat_cell (enc := ub) (fun _ => rfl) L 0 0 (by omega) (by decide)) Try.isAgg5) ?_
    simp only [Act.put, List.setIfInBounds_toArray, List.set_cons_zero, List.set_cons_succ]
    have q3 : (L[0]!).toNat < 256 := ((L[0]!).toBitVec).isLt
    refine wl_val (.int .i64 (((L[0]!).toNat : Nat) : Int)) rfl (fun w => run_conv (X := ((L[0]!).toNat : Int)) rfl rfl Try.underlying5 Try.underlying3 (i64_in (by omega) (by omega)) w) ?_
    simp only [Act.put, List.setIfInBounds_toArray, List.set_cons_zero, List.set_cons_succ]
    refine wl_call 21 #[.int .i64 (((L[0]!).toNat : Nat) : Int)] (.int .i64 ((ksize (hd L) : Nat) : Int)) rfl (fun _ => by go_simp) (fun W => size_any (hd L) W) ?_
    simp only [Act.put, List.setIfInBounds_toArray, List.set_cons_zero, List.set_cons_succ]
    refine wl_val (.int .i64 ((ksize (hd L) : Nat) : Int)) rfl (fun _ => rfl) ?_
    simp only [Act.put, List.setIfInBounds_toArray, List.set_cons_zero, List.set_cons_succ]
    refine wl_nil ?_
    refine we_then ?_
    refine wc_seq ?_
    refine wc_seq ?_
    refine wc_region ?_
    refine wl_val (.int .i64 ((ksize (hd L) : Nat) : Int)) rfl (fun _ => rfl) ?_
    simp only [Act.put, List.setIfInBounds_toArray, List.set_cons_zero, List.set_cons_succ]
    refine wl_val (.bool (((ksize (hd L) : Nat) : Int) == 0)) rfl (fun w => run_cmp rfl rfl rfl Try.underlying3 rfl w) ?_
    simp only [Act.put, List.setIfInBounds_toArray, List.set_cons_zero, List.set_cons_succ]
    refine wl_nil ?_
    refine we_then ?_
    cases h4 : (((ksize (hd L) : Nat) : Int) == 0)
    · skip
      have p4 : ¬ (((ksize (hd L) : Nat) : Int) = 0) := by simpa using h4
      refine wc_false rfl ?_
      refine wc_skip ?_
      refine we_then ?_
      refine wc_seq ?_
      refine wc_seq ?_
      refine wc_region ?_
      refine wl_val (.slice p L.length c) rfl (fun _ => rfl) ?_
      simp only [Act.put, List.setIfInBounds_toArray, List.set_cons_zero, List.set_cons_succ]
      refine wl_read (eaddr p (2 * 1)) rfl (er_index 2 1 (sl_old hL) rfl rfl rfl rfl (by omega) (ub_len1 rfl) (by decide) Try.underlying45 (by kernel_rfl)) ?_
      simp only [Act.put, List.setIfInBounds_toArray, List.set_cons_zero, List.set_cons_succ]
      refine wl_read (.int .u8 ((L[2]!).toNat : Int)) rfl (er_cell (2 * 1) (.int .u8 ((L[2]!).toNat : Int)) (sl_old hL) rfl rfl (flat_cell (enc := ub) (fun _ => rfl) L 2 0 (by omega) (by decide)) Try.isAgg5) ?_
      simp only [Act.put, List.setIfInBounds_toArray, List.set_cons_zero, List.set_cons_succ]
      have q5 : (L[2]!).toNat < 256 := ((L[2]!).toBitVec).isLt
      refine wl_val (.int .i64 (((L[2]!).toNat : Nat) : Int)) rfl (fun w => run_conv (X := ((L[2]!).toNat : Int)) rfl rfl Try.underlying5 Try.underlying3 (i64_in (by omega) (by omega)) w) ?_
      simp only [Act.put, List.setIfInBounds_toArray, List.set_cons_zero, List.set_cons_succ]
      refine wl_val (.int .i64 ((ksize (hd L) : Nat) : Int)) rfl (fun _ => rfl) ?_
      simp only [Act.put, List.setIfInBounds_toArray, List.set_cons_zero, List.set_cons_succ]
      refine wl_val (.bool ((((L[2]!).toNat : Nat) : Int) != ((ksize (hd L) : Nat) : Int))) rfl (fun w => run_cmp rfl rfl rfl Try.underlying3 rfl w) ?_
      simp only [Act.put, List.setIfInBounds_toArray, List.set_cons_zero, List.set_cons_succ]
      refine wl_val (.bool ((((L[2]!).toNat : Nat) : Int) != ((ksize (hd L) : Nat) : Int))) rfl (fun _ => rfl) ?_
      simp only [Act.put, List.setIfInBounds_toArray, List.set_cons_zero, List.set_cons_succ]
      cases h6 : ((((L[2]!).toNat : Nat) : Int) != ((ksize (hd L) : Nat) : Int))
      · skip
        have p6 : ¬ ((((L[2]!).toNat : Nat) : Int) ≠ ((ksize (hd L) : Nat) : Int)) := by simpa using h6
        refine wl_val (.slice p L.length c) rfl (fun _ => rfl) ?_
        simp only [Act.put, List.setIfInBounds_toArray, List.set_cons_zero, List.set_cons_succ]
        refine wl_val (.int .i64 (L.length : Int)) rfl (fun w => er_len rfl rfl Try.underlying45 w) ?_
        simp only [Act.put, List.setIfInBounds_toArray, List.set_cons_zero, List.set_cons_succ]
        refine wl_val (.int .i64 ((ksize (hd L) : Nat) : Int)) rfl (fun _ => rfl) ?_
        simp only [Act.put, List.setIfInBounds_toArray, List.set_cons_zero, List.set_cons_succ]
        refine wl_val (.int .i64 ((5 + (ksize (hd L)) : Nat) : Int)) rfl (fun w => run_nat (X := 5) (Y := ksize (hd L)) (Z := 5 + (ksize (hd L))) rfl rfl rfl rfl (by omega) w) ?_
        simp only [Act.put, List.setIfInBounds_toArray, List.set_cons_zero, List.set_cons_succ]
        refine wl_val (.bool ((L.length : Int) != ((5 + (ksize (hd L)) : Nat) : Int))) rfl (fun w => run_cmp rfl rfl rfl Try.underlying3 rfl w) ?_
        simp only [Act.put, List.setIfInBounds_toArray, List.set_cons_zero, List.set_cons_succ]
        refine wl_val (.bool ((L.length : Int) != ((5 + (ksize (hd L)) : Nat) : Int))) rfl (fun _ => rfl) ?_
        simp only [Act.put, List.setIfInBounds_toArray, List.set_cons_zero, List.set_cons_succ]
        refine wl_nil ?_
        refine we_then ?_
        cases h7 : ((L.length : Int) != ((5 + (ksize (hd L)) : Nat) : Int))
        · skip
          have p7 : ¬ ((L.length : Int) ≠ ((5 + (ksize (hd L)) : Nat) : Int)) := by simpa using h7
          refine wc_false rfl ?_
          refine wc_skip ?_
          refine we_then ?_
          refine wc_seq ?_
          refine wc_seq ?_
          cases h8 : (opens L)
          · skip
            refine wc_draw [.late, .late, .late, .late, .plain, .late, .late, .late, .plain, .plain, .late, .late, .late, .late, .late, .plain, .plain, .late, .late, .late] none [] 86 (by kernel_rfl) rfl (by kernel_rfl) (by kernel_rfl) ?_
            refine ws_late (.slice p L.length c) rfl rfl (fun _ => rfl) ?_
            simp only [Nat.reduceAdd, Act.put, List.setIfInBounds_toArray, List.set_cons_zero, List.set_cons_succ]
            refine ws_late (.int .i64 ((ksize (hd L) : Nat) : Int)) rfl rfl (fun _ => rfl) ?_
            simp only [Nat.reduceAdd, Act.put, List.setIfInBounds_toArray, List.set_cons_zero, List.set_cons_succ]
            refine ws_late (.int .i64 ((3 + (ksize (hd L)) : Nat) : Int)) rfl rfl (fun w => run_nat (X := 3) (Y := ksize (hd L)) (Z := 3 + (ksize (hd L))) rfl rfl rfl rfl (by omega) w) ?_
            simp only [Nat.reduceAdd, Act.put, List.setIfInBounds_toArray, List.set_cons_zero, List.set_cons_succ]
            refine ws_late (.slice p (3 + (ksize (hd L))) c) rfl rfl (fun w => er_take (h := 3 + (ksize (hd L))) rfl rfl rfl rfl (by omega) Try.underlying45 (by kernel_rfl) w) ?_
            simp only [Nat.reduceAdd, Act.put, List.setIfInBounds_toArray, List.set_cons_zero, List.set_cons_succ]
            refine ws_call_at 22 #[.slice p (3 + (ksize (hd L))) c] (.int .i64 (((crc 65535#16 (L.take (3 + (ksize (hd L))))).toNat : Nat) : Int)) rfl rfl (fun _ => by go_simp) (fun W hE => ref_at (L.take (3 + (ksize (hd L)))) _ _ _ W (ub_take_len rfl (by omega)) ((sl_take (3 + (ksize (hd L))) (sl_old hL)) W hE) (Nat.le_trans (Nat.le_of_eq (show (L.take (3 + (ksize (hd L)))).length = 3 + (ksize (hd L)) from (ub_take_len rfl (by omega)))) (by omega))) ?_
            simp only [Nat.reduceAdd, Act.put, List.setIfInBounds_toArray, List.set_cons_zero, List.set_cons_succ]
            refine ws_late (.slice p L.length c) rfl rfl (fun _ => rfl) ?_
            simp only [Nat.reduceAdd, Act.put, List.setIfInBounds_toArray, List.set_cons_zero, List.set_cons_succ]
            refine ws_late (.int .i64 ((ksize (hd L) : Nat) : Int)) rfl rfl (fun _ => rfl) ?_
            simp only [Nat.reduceAdd, Act.put, List.setIfInBounds_toArray, List.set_cons_zero, List.set_cons_succ]
            refine ws_late (.int .i64 ((3 + (ksize (hd L)) : Nat) : Int)) rfl rfl (fun w => run_nat (X := 3) (Y := ksize (hd L)) (Z := 3 + (ksize (hd L))) rfl rfl rfl rfl (by omega) w) ?_
            simp only [Nat.reduceAdd, Act.put, List.setIfInBounds_toArray, List.set_cons_zero, List.set_cons_succ]
            refine ws_read (eaddr p ((3 + (ksize (hd L))) * 1)) rfl rfl (er_index (3 + (ksize (hd L))) 1 (sl_old hL) rfl rfl rfl rfl (by omega) (ub_len1 rfl) (by decide) Try.underlying45 (by kernel_rfl)) ?_
            simp only [Nat.reduceAdd, Act.put, List.setIfInBounds_toArray, List.set_cons_zero, List.set_cons_succ]
            refine ws_read (.int .u8 ((L[3 + (ksize (hd L))]!).toNat : Int)) rfl rfl (er_cell ((3 + (ksize (hd L))) * 1) (.int .u8 ((L[3 + (ksize (hd L))]!).toNat : Int)) (sl_old hL) rfl rfl (flat_cell (enc := ub) (fun _ => rfl) L (3 + (ksize (hd L))) 0 (by omega) (by decide)) Try.isAgg5) ?_
            simp only [Nat.reduceAdd, Act.put, List.setIfInBounds_toArray, List.set_cons_zero, List.set_cons_succ]
            have q9 : (L[3 + (ksize (hd L))]!).toNat < 256 := ((L[3 + (ksize (hd L))]!).toBitVec).isLt
            refine ws_late (.int .i64 (((L[3 + (ksize (hd L))]!).toNat : Nat) : Int)) rfl rfl (fun w => run_conv (X := ((L[3 + (ksize (hd L))]!).toNat : Int)) rfl rfl Try.underlying5 Try.underlying3 (i64_in (by omega) (by omega)) w) ?_
            simp only [Nat.reduceAdd, Act.put, List.setIfInBounds_toArray, List.set_cons_zero, List.set_cons_succ]
            refine ws_late (.int .i64 ((((L[3 + (ksize (hd L))]!).toNat) * 256 : Nat) : Int)) rfl rfl (fun w => run_nat (X := (L[3 + (ksize (hd L))]!).toNat) (Y := 256) (Z := ((L[3 + (ksize (hd L))]!).toNat) * 256) rfl rfl rfl rfl (by omega) w) ?_
            simp only [Nat.reduceAdd, Act.put, List.setIfInBounds_toArray, List.set_cons_zero, List.set_cons_succ]
            refine ws_late (.slice p L.length c) rfl rfl (fun _ => rfl) ?_
            simp only [Nat.reduceAdd, Act.put, List.setIfInBounds_toArray, List.set_cons_zero, List.set_cons_succ]
            refine ws_late (.int .i64 ((ksize (hd L) : Nat) : Int)) rfl rfl (fun _ => rfl) ?_
            simp only [Nat.reduceAdd, Act.put, List.setIfInBounds_toArray, List.set_cons_zero, List.set_cons_succ]
            refine ws_late (.int .i64 ((4 + (ksize (hd L)) : Nat) : Int)) rfl rfl (fun w => run_nat (X := 4) (Y := ksize (hd L)) (Z := 4 + (ksize (hd L))) rfl rfl rfl rfl (by omega) w) ?_
            simp only [Nat.reduceAdd, Act.put, List.setIfInBounds_toArray, List.set_cons_zero, List.set_cons_succ]
            refine ws_read (eaddr p ((4 + (ksize (hd L))) * 1)) rfl rfl (er_index (4 + (ksize (hd L))) 1 (sl_old hL) rfl rfl rfl rfl (by omega) (ub_len1 rfl) (by decide) Try.underlying45 (by kernel_rfl)) ?_
            simp only [Nat.reduceAdd, Act.put, List.setIfInBounds_toArray, List.set_cons_zero, List.set_cons_succ]
            refine ws_read (.int .u8 ((L[4 + (ksize (hd L))]!).toNat : Int)) rfl rfl (er_cell ((4 + (ksize (hd L))) * 1) (.int .u8 ((L[4 + (ksize (hd L))]!).toNat : Int)) (sl_old hL) rfl rfl (flat_cell (enc := ub) (fun _ => rfl) L (4 + (ksize (hd L))) 0 (by omega) (by decide)) Try.isAgg5) ?_
            simp only [Nat.reduceAdd, Act.put, List.setIfInBounds_toArray, List.set_cons_zero, List.set_cons_succ]
            have q10 : (L[4 + (ksize (hd L))]!).toNat < 256 := ((L[4 + (ksize (hd L))]!).toBitVec).isLt
            refine ws_late (.int .i64 (((L[4 + (ksize (hd L))]!).toNat : Nat) : Int)) rfl rfl (fun w => run_conv (X := ((L[4 + (ksize (hd L))]!).toNat : Int)) rfl rfl Try.underlying5 Try.underlying3 (i64_in (by omega) (by omega)) w) ?_
            simp only [Nat.reduceAdd, Act.put, List.setIfInBounds_toArray, List.set_cons_zero, List.set_cons_succ]
            refine ws_late (.int .i64 (((((L[3 + (ksize (hd L))]!).toNat) * 256) + ((L[4 + (ksize (hd L))]!).toNat) : Nat) : Int)) rfl rfl (fun w => run_nat (X := ((L[3 + (ksize (hd L))]!).toNat) * 256) (Y := (L[4 + (ksize (hd L))]!).toNat) (Z := (((L[3 + (ksize (hd L))]!).toNat) * 256) + ((L[4 + (ksize (hd L))]!).toNat)) rfl rfl rfl rfl (by omega) w) ?_
            simp only [Nat.reduceAdd, Act.put, List.setIfInBounds_toArray, List.set_cons_zero, List.set_cons_succ]
            refine ws_late (.bool true) rfl rfl (fun w => run_ine (b := true) rfl rfl rfl Try.underlying3 ((own_ne L (ksize (hd L)) (by omega)).trans (by rw [h8]; rfl)) w) ?_
            simp only [Nat.reduceAdd, Act.put, List.setIfInBounds_toArray, List.set_cons_zero, List.set_cons_succ]
            refine ws_nil [] trivial (by simp) ?_
            intro ps11
            simp only [fin, List.foldl_nil, List.map, List.nil_append]
            refine we_then ?_
            refine wc_true rfl ?_
            refine wc_seq ?_
            refine wc_region ?_
            refine wl_val (.agg #[.int .i64 0, .int .i64 0, .int .i64 0]) rfl (fun _ => by go_simp) ?_
            simp only [Act.put, List.setIfInBounds_toArray, List.set_cons_zero, List.set_cons_succ]
            refine wl_store 0 53 (.tmp 2) (.tmp 53) (#[.int .i64 0, .int .i64 0, .int .i64 0]) rfl rfl rfl rfl rfl (by kernel_rfl) rfl (by simp [Value.oneCell']) ?_
            simp only [Act.put, List.set_cons_zero]
            refine wl_val (.int .i64 31) rfl (fun _ => rfl) ?_
            simp only [Act.put, List.setIfInBounds_toArray, List.set_cons_zero, List.set_cons_succ]
            refine wl_nil ?_
            refine we_then ?_
            refine wc_ret ?_
            refine we_then_ret ?_
            refine we_ret_cell_tmp (.int .i64 31) (own_row 0 rfl) rfl rfl rfl rfl Try.underlying53 rfl (by kernel_rfl) (fun w1 hE => ?_)
            have e1 := get_sum (L := L) (by omega) (by omega) (by omega) (by omega) h8
            exact ⟨by rw [getF_no e1 (by decide), e1]; rfl, hE.below⟩
          · skip
            refine wc_draw [.late, .late, .late, .late, .plain, .late, .late, .late, .plain, .plain, .late, .late, .late, .late, .late, .plain, .plain, .late, .late, .late] none [] 86 (by kernel_rfl) rfl (by kernel_rfl) (by kernel_rfl) ?_
            refine ws_late (.slice p L.length c) rfl rfl (fun _ => rfl) ?_
            simp only [Nat.reduceAdd, Act.put, List.setIfInBounds_toArray, List.set_cons_zero, List.set_cons_succ]
            refine ws_late (.int .i64 ((ksize (hd L) : Nat) : Int)) rfl rfl (fun _ => rfl) ?_
            simp only [Nat.reduceAdd, Act.put, List.setIfInBounds_toArray, List.set_cons_zero, List.set_cons_succ]
            refine ws_late (.int .i64 ((3 + (ksize (hd L)) : Nat) : Int)) rfl rfl (fun w => run_nat (X := 3) (Y := ksize (hd L)) (Z := 3 + (ksize (hd L))) rfl rfl rfl rfl (by omega) w) ?_
            simp only [Nat.reduceAdd, Act.put, List.setIfInBounds_toArray, List.set_cons_zero, List.set_cons_succ]
            refine ws_late (.slice p (3 + (ksize (hd L))) c) rfl rfl (fun w => er_take (h := 3 + (ksize (hd L))) rfl rfl rfl rfl (by omega) Try.underlying45 (by kernel_rfl) w) ?_
            simp only [Nat.reduceAdd, Act.put, List.setIfInBounds_toArray, List.set_cons_zero, List.set_cons_succ]
            refine ws_call_at 22 #[.slice p (3 + (ksize (hd L))) c] (.int .i64 (((crc 65535#16 (L.take (3 + (ksize (hd L))))).toNat : Nat) : Int)) rfl rfl (fun _ => by go_simp) (fun W hE => ref_at (L.take (3 + (ksize (hd L)))) _ _ _ W (ub_take_len rfl (by omega)) ((sl_take (3 + (ksize (hd L))) (sl_old hL)) W hE) (Nat.le_trans (Nat.le_of_eq (show (L.take (3 + (ksize (hd L)))).length = 3 + (ksize (hd L)) from (ub_take_len rfl (by omega)))) (by omega))) ?_
            simp only [Nat.reduceAdd, Act.put, List.setIfInBounds_toArray, List.set_cons_zero, List.set_cons_succ]
            refine ws_late (.slice p L.length c) rfl rfl (fun _ => rfl) ?_
            simp only [Nat.reduceAdd, Act.put, List.setIfInBounds_toArray, List.set_cons_zero, List.set_cons_succ]
            refine ws_late (.int .i64 ((ksize (hd L) : Nat) : Int)) rfl rfl (fun _ => rfl) ?_
            simp only [Nat.reduceAdd, Act.put, List.setIfInBounds_toArray, List.set_cons_zero, List.set_cons_succ]
            refine ws_late (.int .i64 ((3 + (ksize (hd L)) : Nat) : Int)) rfl rfl (fun w => run_nat (X := 3) (Y := ksize (hd L)) (Z := 3 + (ksize (hd L))) rfl rfl rfl rfl (by omega) w) ?_
            simp only [Nat.reduceAdd, Act.put, List.setIfInBounds_toArray, List.set_cons_zero, List.set_cons_succ]
            refine ws_read (eaddr p ((3 + (ksize (hd L))) * 1)) rfl rfl (er_index (3 + (ksize (hd L))) 1 (sl_old hL) rfl rfl rfl rfl (by omega) (ub_len1 rfl) (by decide) Try.underlying45 (by kernel_rfl)) ?_
            simp only [Nat.reduceAdd, Act.put, List.setIfInBounds_toArray, List.set_cons_zero, List.set_cons_succ]
            refine ws_read (.int .u8 ((L[3 + (ksize (hd L))]!).toNat : Int)) rfl rfl (er_cell ((3 + (ksize (hd L))) * 1) (.int .u8 ((L[3 + (ksize (hd L))]!).toNat : Int)) (sl_old hL) rfl rfl (flat_cell (enc := ub) (fun _ => rfl) L (3 + (ksize (hd L))) 0 (by omega) (by decide)) Try.isAgg5) ?_
            simp only [Nat.reduceAdd, Act.put, List.setIfInBounds_toArray, List.set_cons_zero, List.set_cons_succ]
            have q12 : (L[3 + (ksize (hd L))]!).toNat < 256 := ((L[3 + (ksize (hd L))]!).toBitVec).isLt
            refine ws_late (.int .i64 (((L[3 + (ksize (hd L))]!).toNat : Nat) : Int)) rfl rfl (fun w => run_conv (X := ((L[3 + (ksize (hd L))]!).toNat : Int)) rfl rfl Try.underlying5 Try.underlying3 (i64_in (by omega) (by omega)) w) ?_
            simp only [Nat.reduceAdd, Act.put, List.setIfInBounds_toArray, List.set_cons_zero, List.set_cons_succ]
            refine ws_late (.int .i64 ((((L[3 + (ksize (hd L))]!).toNat) * 256 : Nat) : Int)) rfl rfl (fun w => run_nat (X := (L[3 + (ksize (hd L))]!).toNat) (Y := 256) (Z := ((L[3 + (ksize (hd L))]!).toNat) * 256) rfl rfl rfl rfl (by omega) w) ?_
            simp only [Nat.reduceAdd, Act.put, List.setIfInBounds_toArray, List.set_cons_zero, List.set_cons_succ]
            refine ws_late (.slice p L.length c) rfl rfl (fun _ => rfl) ?_
            simp only [Nat.reduceAdd, Act.put, List.setIfInBounds_toArray, List.set_cons_zero, List.set_cons_succ]
            refine ws_late (.int .i64 ((ksize (hd L) : Nat) : Int)) rfl rfl (fun _ => rfl) ?_
            simp only [Nat.reduceAdd, Act.put, List.setIfInBounds_toArray, List.set_cons_zero, List.set_cons_succ]
            refine ws_late (.int .i64 ((4 + (ksize (hd L)) : Nat) : Int)) rfl rfl (fun w => run_nat (X := 4) (Y := ksize (hd L)) (Z := 4 + (ksize (hd L))) rfl rfl rfl rfl (by omega) w) ?_
            simp only [Nat.reduceAdd, Act.put, List.setIfInBounds_toArray, List.set_cons_zero, List.set_cons_succ]
            refine ws_read (eaddr p ((4 + (ksize (hd L))) * 1)) rfl rfl (er_index (4 + (ksize (hd L))) 1 (sl_old hL) rfl rfl rfl rfl (by omega) (ub_len1 rfl) (by decide) Try.underlying45 (by kernel_rfl)) ?_
            simp only [Nat.reduceAdd, Act.put, List.setIfInBounds_toArray, List.set_cons_zero, List.set_cons_succ]
            refine ws_read (.int .u8 ((L[4 + (ksize (hd L))]!).toNat : Int)) rfl rfl (er_cell ((4 + (ksize (hd L))) * 1) (.int .u8 ((L[4 + (ksize (hd L))]!).toNat : Int)) (sl_old hL) rfl rfl (flat_cell (enc := ub) (fun _ => rfl) L (4 + (ksize (hd L))) 0 (by omega) (by decide)) Try.isAgg5) ?_
            simp only [Nat.reduceAdd, Act.put, List.setIfInBounds_toArray, List.set_cons_zero, List.set_cons_succ]
            have q13 : (L[4 + (ksize (hd L))]!).toNat < 256 := ((L[4 + (ksize (hd L))]!).toBitVec).isLt
            refine ws_late (.int .i64 (((L[4 + (ksize (hd L))]!).toNat : Nat) : Int)) rfl rfl (fun w => run_conv (X := ((L[4 + (ksize (hd L))]!).toNat : Int)) rfl rfl Try.underlying5 Try.underlying3 (i64_in (by omega) (by omega)) w) ?_
            simp only [Nat.reduceAdd, Act.put, List.setIfInBounds_toArray, List.set_cons_zero, List.set_cons_succ]
            refine ws_late (.int .i64 (((((L[3 + (ksize (hd L))]!).toNat) * 256) + ((L[4 + (ksize (hd L))]!).toNat) : Nat) : Int)) rfl rfl (fun w => run_nat (X := ((L[3 + (ksize (hd L))]!).toNat) * 256) (Y := (L[4 + (ksize (hd L))]!).toNat) (Z := (((L[3 + (ksize (hd L))]!).toNat) * 256) + ((L[4 + (ksize (hd L))]!).toNat)) rfl rfl rfl rfl (by omega) w) ?_
            simp only [Nat.reduceAdd, Act.put, List.setIfInBounds_toArray, List.set_cons_zero, List.set_cons_succ]
            refine ws_late (.bool false) rfl rfl (fun w => run_ine (b := false) rfl rfl rfl Try.underlying3 ((own_ne L (ksize (hd L)) (by omega)).trans (by rw [h8]; rfl)) w) ?_
            simp only [Nat.reduceAdd, Act.put, List.setIfInBounds_toArray, List.set_cons_zero, List.set_cons_succ]
            refine ws_nil [] trivial (by simp) ?_
            intro ps14
            simp only [fin, List.foldl_nil, List.map, List.nil_append]
            refine we_then ?_
            refine wc_false rfl ?_
            refine wc_skip ?_
            refine we_then ?_
            refine wc_seq ?_
            refine wc_region ?_
            refine wl_val (.int .i64 0) rfl (fun _ => rfl) ?_
            simp only [Act.put, List.setIfInBounds_toArray, List.set_cons_zero, List.set_cons_succ]
            refine wl_nil ?_
            refine we_then ?_
            refine wc_seq ?_
            refine wc_seq ?_
            refine wc_region ?_
            refine wl_val (.int .i64 3) rfl (fun _ => rfl) ?_
            simp only [Act.put, List.setIfInBounds_toArray, List.set_cons_zero, List.set_cons_succ]
            refine wl_nil ?_
            refine we_then ?_
            refine wc_block ?_
            refine wc_loop (fun (zz : Nat × Nat × Value × Value × Value × Value × Value × Value × Value × Value × Value × Value × Value × Value × Value × Value) => match zz with | ⟨i, m, u54, u55, u56, u57, u58, u59, u60, u61, u62, u63, u64, u65, u66, u67⟩ => ({ tmps := #[.slice p L.length c, undef, .pointer (some ⟨g1, 0, none⟩), .int .i64 0, .int .i64 ((ksize (hd L) : Nat) : Int), .int .i64 (m : Int), .int .i64 (i : Int), .slice p L.length c, .int .i64 (L.length : Int), .bool false, undef, .slice p L.length c, eaddr p (0 * 1), .int .u8 ((L[0]!).toNat : Int), .int .i64 (((L[0]!).toNat : Nat) : Int), .int .i64 ((ksize (hd L) : Nat) : Int), .int .i64 ((ksize (hd L) : Nat) : Int), .bool false, undef, .slice p L.length c, eaddr p (2 * 1), .int .u8 ((L[2]!).toNat : Int), .int .i64 (((L[2]!).toNat : Nat) : Int), .int .i64 ((ksize (hd L) : Nat) : Int), .bool false, .bool false, .slice p L.length c, .int .i64 (L.length : Int), .int .i64 ((ksize (hd L) : Nat) : Int), .int .i64 ((5 + (ksize (hd L)) : Nat) : Int), .bool false, .bool false, undef, .slice p L.length c, .int .i64 ((ksize (hd L) : Nat) : Int), .int .i64 ((3 + (ksize (hd L)) : Nat) : Int), .slice p (3 + (ksize (hd L))) c, .int .i64 (((crc 65535#16 (L.take (3 + (ksize (hd L))))).toNat : Nat) : Int), .slice p L.length c, .int .i64 ((ksize (hd L) : Nat) : Int), .int .i64 ((3 + (ksize (hd L)) : Nat) : Int), eaddr p ((3 + (ksize (hd L))) * 1), .int .u8 ((L[3 + (ksize (hd L))]!).toNat : Int), .int .i64 (((L[3 + (ksize (hd L))]!).toNat : Nat) : Int), .int .i64 ((((L[3 + (ksize (hd L))]!).toNat) * 256 : Nat) : Int), .slice p L.length c, .int .i64 ((ksize (hd L) : Nat) : Int), .int .i64 ((4 + (ksize (hd L)) : Nat) : Int), eaddr p ((4 + (ksize (hd L))) * 1), .int .u8 ((L[4 + (ksize (hd L))]!).toNat : Int), .int .i64 (((L[4 + (ksize (hd L))]!).toNat : Nat) : Int), .int .i64 (((((L[3 + (ksize (hd L))]!).toNat) * 256) + ((L[4 + (ksize (hd L))]!).toNat) : Nat) : Int), .bool false, undef, u54, u55, u56, u57, u58, u59, u60, u61, u62, u63, u64, u65, u66, u67, undef, undef, undef, undef, undef, undef, undef, undef, undef, undef, undef, undef, undef, undef, undef, undef, undef, undef], defers := [] } : Act)) (fun (zz : Nat × Nat × Value × Value × Value × Value × Value × Value × Value × Value × Value × Value × Value × Value × Value × Value) => match zz with | ⟨i, m, u54, u55, u56, u57, u58, u59, u60, u61, u62, u63, u64, u65, u66, u67⟩ => [⟨g1, #[.int .i64 0, .int .i64 0, .int .i64 0], 53⟩]) (fun (zz : Nat × Nat × Value × Value × Value × Value × Value × Value × Value × Value × Value × Value × Value × Value × Value × Value) => match zz with | ⟨i, m, u54, u55, u56, u57, u58, u59, u60, u61, u62, u63, u64, u65, u66, u67⟩ => 3 ≤ i ∧ i ≤ 3 + ksize (hd L) ∧ m = num ((L.drop 3).take (i - 3))) (fun (zz : Nat × Nat × Value × Value × Value × Value × Value × Value × Value × Value × Value × Value × Value × Value × Value × Value) => match zz with | ⟨i, m, u54, u55, u56, u57, u58, u59, u60, u61, u62, u63, u64, u65, u66, u67⟩ => 3 + ksize (hd L) - i) ⟨3, 0, _, _, _, _, _, _, _, _, _, _, _, _, _, _⟩ (by (try dsimp only); exact ⟨by omega, by omega, rfl⟩) rfl (List.Sublist.cons_cons _ List.Sublist.slnil) ?_
            rintro ⟨i, m, u54, u55, u56, u57, u58, u59, u60, u61, u62, u63, u64, u65, u66, u67⟩ hφ
            (try dsimp only at hφ ⊢)
            obtain ⟨b1, b2, b3⟩ := hφ
            have v1 : m < 4294967296 := by rw [b3]; exact num_small L i _ b2 (by omega)
            refine wc_seq ?_
            refine wc_seq ?_
            refine wc_region ?_
            refine wl_val (.int .i64 (i : Int)) rfl (fun _ => rfl) ?_
            simp only [Act.put, List.setIfInBounds_toArray, List.set_cons_zero, List.set_cons_succ]
            refine wl_val (.int .i64 ((ksize (hd L) : Nat) : Int)) rfl (fun _ => rfl) ?_
            simp only [Act.put, List.setIfInBounds_toArray, List.set_cons_zero, List.set_cons_succ]
            refine wl_val (.int .i64 ((3 + (ksize (hd L)) : Nat) : Int)) rfl (fun w => run_nat (X := 3) (Y := ksize (hd L)) (Z := 3 + (ksize (hd L))) rfl rfl rfl rfl (by omega) w) ?_
            simp only [Act.put, List.setIfInBounds_toArray, List.set_cons_zero, List.set_cons_succ]
            refine wl_val (.bool (decide ((i : Int) < ((3 + (ksize (hd L)) : Nat) : Int)))) rfl (fun w => run_cmp rfl rfl rfl Try.underlying3 rfl w) ?_
            simp only [Act.put, List.setIfInBounds_toArray, List.set_cons_zero, List.set_cons_succ]
            refine wl_nil ?_
            refine we_then ?_
            cases h15 : (decide ((i : Int) < ((3 + (ksize (hd L)) : Nat) : Int)))
            · skip
              have p15 : ¬ ((i : Int) < ((3 + (ksize (hd L)) : Nat) : Int)) := of_decide_eq_false h15
              refine wc_false rfl ?_
              refine wc_exit ?_
              refine we_then_exit ?_
              refine we_then_exit ?_
              refine we_in_here ?_
              refine we_then ?_
              refine wc_seq ?_
              refine wc_seq ?_
              refine wc_region ?_
              refine wl_val (.int .i64 ((ksize (hd L) : Nat) : Int)) rfl (fun _ => rfl) ?_
              simp only [Act.put, List.setIfInBounds_toArray, List.set_cons_zero, List.set_cons_succ]
              refine wl_val (.bool (((ksize (hd L) : Nat) : Int) == 4)) rfl (fun w => run_cmp rfl rfl rfl Try.underlying3 rfl w) ?_
              simp only [Act.put, List.setIfInBounds_toArray, List.set_cons_zero, List.set_cons_succ]
              refine wl_val (.bool (((ksize (hd L) : Nat) : Int) == 4)) rfl (fun _ => rfl) ?_
              simp only [Act.put, List.setIfInBounds_toArray, List.set_cons_zero, List.set_cons_succ]
              cases h16 : (((ksize (hd L) : Nat) : Int) == 4)
              · skip
                have p16 : ¬ (((ksize (hd L) : Nat) : Int) = 4) := by simpa using h16
                refine wl_skip rfl ?_
                simp only [Act.put, List.setIfInBounds_toArray, List.set_cons_zero, List.set_cons_succ]
                refine wl_skip rfl ?_
                simp only [Act.put, List.setIfInBounds_toArray, List.set_cons_zero, List.set_cons_succ]
                refine wl_val (.bool false) rfl (fun _ => rfl) ?_
                simp only [Act.put, List.setIfInBounds_toArray, List.set_cons_zero, List.set_cons_succ]
                refine wl_nil ?_
                refine we_then ?_
                refine wc_false rfl ?_
                refine wc_skip ?_
                refine we_then ?_
                refine wc_seq ?_
                refine wc_draw [.late, .plain, .plain, .late, .late, .plain, .plain, .late, .late, .late, .over, .late] (some ⟨10, g1, 53, #[.int .i64 0, .int .i64 0, .int .i64 0], #[.int .i64 (((L[0]!).toNat : Nat) : Int), .int .i64 (((L[1]!).toNat : Nat) : Int), .int .i64 (m : Int)]⟩) [] 86 (by kernel_rfl) rfl (by kernel_rfl) (by kernel_rfl) ?_
                refine ws_late (.slice p L.length c) rfl rfl (fun _ => rfl) ?_
                simp only [Nat.reduceAdd, Act.put, List.setIfInBounds_toArray, List.set_cons_zero, List.set_cons_succ]
                refine ws_read (eaddr p (0 * 1)) rfl rfl (er_index 0 1 (sl_old hL) rfl rfl rfl rfl (by omega) (ub_len1 rfl) (by decide) Try.underlying45 (by kernel_rfl)) ?_
                simp only [Nat.reduceAdd, Act.put, List.setIfInBounds_toArray, List.set_cons_zero, List.set_cons_succ]
                refine ws_read (.int .u8 ((L[0]!).toNat : Int)) rfl rfl (er_cell (0 * 1) (.int .u8 ((L[0]!).toNat : Int)) (sl_old hL) rfl rfl (flat_cell (enc := ub) (fun _ => rfl) L 0 0 (by omega) (by decide)) Try.isAgg5) ?_
                simp only [Nat.reduceAdd, Act.put, List.setIfInBounds_toArray, List.set_cons_zero, List.set_cons_succ]
                have q17 : (L[0]!).toNat < 256 := ((L[0]!).toBitVec).isLt
                refine ws_late (.int .i64 (((L[0]!).toNat : Nat) : Int)) rfl rfl (fun w => run_conv (X := ((L[0]!).toNat : Int)) rfl rfl Try.underlying5 Try.underlying3 (i64_in (by omega) (by omega)) w) ?_
                simp only [Nat.reduceAdd, Act.put, List.setIfInBounds_toArray, List.set_cons_zero, List.set_cons_succ]
                refine ws_late (.slice p L.length c) rfl rfl (fun _ => rfl) ?_
                simp only [Nat.reduceAdd, Act.put, List.setIfInBounds_toArray, List.set_cons_zero, List.set_cons_succ]
                refine ws_read (eaddr p (1 * 1)) rfl rfl (er_index 1 1 (sl_old hL) rfl rfl rfl rfl (by omega) (ub_len1 rfl) (by decide) Try.underlying45 (by kernel_rfl)) ?_
                simp only [Nat.reduceAdd, Act.put, List.setIfInBounds_toArray, List.set_cons_zero, List.set_cons_succ]
                refine ws_read (.int .u8 ((L[1]!).toNat : Int)) rfl rfl (er_cell (1 * 1) (.int .u8 ((L[1]!).toNat : Int)) (sl_old hL) rfl rfl (flat_cell (enc := ub) (fun _ => rfl) L 1 0 (by omega) (by decide)) Try.isAgg5) ?_
                simp only [Nat.reduceAdd, Act.put, List.setIfInBounds_toArray, List.set_cons_zero, List.set_cons_succ]
                have q18 : (L[1]!).toNat < 256 := ((L[1]!).toBitVec).isLt
                refine ws_late (.int .i64 (((L[1]!).toNat : Nat) : Int)) rfl rfl (fun w => run_conv (X := ((L[1]!).toNat : Int)) rfl rfl Try.underlying5 Try.underlying3 (i64_in (by omega) (by omega)) w) ?_
                simp only [Nat.reduceAdd, Act.put, List.setIfInBounds_toArray, List.set_cons_zero, List.set_cons_succ]
                refine ws_late (.int .i64 (m : Int)) rfl rfl (fun _ => rfl) ?_
                simp only [Nat.reduceAdd, Act.put, List.setIfInBounds_toArray, List.set_cons_zero, List.set_cons_succ]
                refine ws_late (.agg #[.int .i64 (((L[0]!).toNat : Nat) : Int), .int .i64 (((L[1]!).toNat : Nat) : Int), .int .i64 (m : Int)]) rfl rfl (fun _ => by go_simp) ?_
                simp only [Nat.reduceAdd, Act.put, List.setIfInBounds_toArray, List.set_cons_zero, List.set_cons_succ]
                refine ws_over 0 _ 53 (.tmp 2) (.tmp 85) rfl rfl rfl rfl rfl rfl rfl rfl rfl (by kernel_rfl) rfl (by simp [Value.oneCell']) ?_
                simp only [Nat.reduceAdd]
                refine ws_late (.int .i64 0) rfl rfl (fun _ => rfl) ?_
                simp only [Nat.reduceAdd, Act.put, List.setIfInBounds_toArray, List.set_cons_zero, List.set_cons_succ]
                refine ws_nil_over 0 rfl (show 10 < 12 by decide) [] trivial (by simp) ?_
                intro ps19
                simp only [fin, List.foldl_nil, List.map, List.nil_append]
                refine we_then ?_
                refine wc_ret ?_
                refine we_ret_cell_tmp (.int .i64 0) (own_row 0 rfl) rfl rfl rfl rfl Try.underlying53 rfl (by kernel_rfl) (fun w1 hE => ?_)
                have e0 := get_good (L := L) (by omega) (by omega) (by omega) (by omega) h8
                have e1 : i = 3 + ksize (hd L) := by omega
                rw [e1, Nat.add_sub_cancel_left] at b3
                have e2 : getV L = (m : Int) := by unfold getV low; rw [← b3, if_neg (by omega)]
                exact ⟨by rw [getF_yes e0, e0, e2]; rfl, hE.below⟩
              · skip
                have p16 : ((ksize (hd L) : Nat) : Int) = 4 := by simpa using h16
                refine wl_val (.int .i64 (m : Int)) rfl (fun _ => rfl) ?_
                simp only [Act.put, List.setIfInBounds_toArray, List.set_cons_zero, List.set_cons_succ]
                refine wl_val (.bool (decide (2147483648 ≤ (m : Int)))) rfl (fun w => run_cmp rfl rfl rfl Try.underlying2 rfl w) ?_
                simp only [Act.put, List.setIfInBounds_toArray, List.set_cons_zero, List.set_cons_succ]
                refine wl_val (.bool (decide (2147483648 ≤ (m : Int)))) rfl (fun _ => rfl) ?_
                simp only [Act.put, List.setIfInBounds_toArray, List.set_cons_zero, List.set_cons_succ]
                refine wl_nil ?_
                refine we_then ?_
                cases h20 : (decide (2147483648 ≤ (m : Int)))
                · skip
                  have p20 : ¬ (2147483648 ≤ (m : Int)) := of_decide_eq_false h20
                  refine wc_false rfl ?_
                  refine wc_skip ?_
                  refine we_then ?_
                  refine wc_seq ?_
                  refine wc_draw [.late, .plain, .plain, .late, .late, .plain, .plain, .late, .late, .late, .over, .late] (some ⟨10, g1, 53, #[.int .i64 0, .int .i64 0, .int .i64 0], #[.int .i64 (((L[0]!).toNat : Nat) : Int), .int .i64 (((L[1]!).toNat : Nat) : Int), .int .i64 (m : Int)]⟩) [] 86 (by kernel_rfl) rfl (by kernel_rfl) (by kernel_rfl) ?_
                  refine ws_late (.slice p L.length c) rfl rfl (fun _ => rfl) ?_
                  simp only [Nat.reduceAdd, Act.put, List.setIfInBounds_toArray, List.set_cons_zero, List.set_cons_succ]
                  refine ws_read (eaddr p (0 * 1)) rfl rfl (er_index 0 1 (sl_old hL) rfl rfl rfl rfl (by omega) (ub_len1 rfl) (by decide) Try.underlying45 (by kernel_rfl)) ?_
                  simp only [Nat.reduceAdd, Act.put, List.setIfInBounds_toArray, List.set_cons_zero, List.set_cons_succ]
                  refine ws_read (.int .u8 ((L[0]!).toNat : Int)) rfl rfl (er_cell (0 * 1) (.int .u8 ((L[0]!).toNat : Int)) (sl_old hL) rfl rfl (flat_cell (enc := ub) (fun _ => rfl) L 0 0 (by omega) (by decide)) Try.isAgg5) ?_
                  simp only [Nat.reduceAdd, Act.put, List.setIfInBounds_toArray, List.set_cons_zero, List.set_cons_succ]
                  have q21 : (L[0]!).toNat < 256 := ((L[0]!).toBitVec).isLt
                  refine ws_late (.int .i64 (((L[0]!).toNat : Nat) : Int)) rfl rfl (fun w => run_conv (X := ((L[0]!).toNat : Int)) rfl rfl Try.underlying5 Try.underlying3 (i64_in (by omega) (by omega)) w) ?_
                  simp only [Nat.reduceAdd, Act.put, List.setIfInBounds_toArray, List.set_cons_zero, List.set_cons_succ]
                  refine ws_late (.slice p L.length c) rfl rfl (fun _ => rfl) ?_
                  simp only [Nat.reduceAdd, Act.put, List.setIfInBounds_toArray, List.set_cons_zero, List.set_cons_succ]
                  refine ws_read (eaddr p (1 * 1)) rfl rfl (er_index 1 1 (sl_old hL) rfl rfl rfl rfl (by omega) (ub_len1 rfl) (by decide) Try.underlying45 (by kernel_rfl)) ?_
                  simp only [Nat.reduceAdd, Act.put, List.setIfInBounds_toArray, List.set_cons_zero, List.set_cons_succ]
                  refine ws_read (.int .u8 ((L[1]!).toNat : Int)) rfl rfl (er_cell (1 * 1) (.int .u8 ((L[1]!).toNat : Int)) (sl_old hL) rfl rfl (flat_cell (enc := ub) (fun _ => rfl) L 1 0 (by omega) (by decide)) Try.isAgg5) ?_
                  simp only [Nat.reduceAdd, Act.put, List.setIfInBounds_toArray, List.set_cons_zero, List.set_cons_succ]
                  have q22 : (L[1]!).toNat < 256 := ((L[1]!).toBitVec).isLt
                  refine ws_late (.int .i64 (((L[1]!).toNat : Nat) : Int)) rfl rfl (fun w => run_conv (X := ((L[1]!).toNat : Int)) rfl rfl Try.underlying5 Try.underlying3 (i64_in (by omega) (by omega)) w) ?_
                  simp only [Nat.reduceAdd, Act.put, List.setIfInBounds_toArray, List.set_cons_zero, List.set_cons_succ]
                  refine ws_late (.int .i64 (m : Int)) rfl rfl (fun _ => rfl) ?_
                  simp only [Nat.reduceAdd, Act.put, List.setIfInBounds_toArray, List.set_cons_zero, List.set_cons_succ]
                  refine ws_late (.agg #[.int .i64 (((L[0]!).toNat : Nat) : Int), .int .i64 (((L[1]!).toNat : Nat) : Int), .int .i64 (m : Int)]) rfl rfl (fun _ => by go_simp) ?_
                  simp only [Nat.reduceAdd, Act.put, List.setIfInBounds_toArray, List.set_cons_zero, List.set_cons_succ]
                  refine ws_over 0 _ 53 (.tmp 2) (.tmp 85) rfl rfl rfl rfl rfl rfl rfl rfl rfl (by kernel_rfl) rfl (by simp [Value.oneCell']) ?_
                  simp only [Nat.reduceAdd]
                  refine ws_late (.int .i64 0) rfl rfl (fun _ => rfl) ?_
                  simp only [Nat.reduceAdd, Act.put, List.setIfInBounds_toArray, List.set_cons_zero, List.set_cons_succ]
                  refine ws_nil_over 0 rfl (show 10 < 12 by decide) [] trivial (by simp) ?_
                  intro ps23
                  simp only [fin, List.foldl_nil, List.map, List.nil_append]
                  refine we_then ?_
                  refine wc_ret ?_
                  refine we_ret_cell_tmp (.int .i64 0) (own_row 0 rfl) rfl rfl rfl rfl Try.underlying53 rfl (by kernel_rfl) (fun w1 hE => ?_)
                  have e0 := get_good (L := L) (by omega) (by omega) (by omega) (by omega) h8
                  have e1 : i = 3 + ksize (hd L) := by omega
                  rw [e1, Nat.add_sub_cancel_left] at b3
                  have e2 : getV L = (m : Int) := by unfold getV low; rw [← b3, if_neg (by omega)]
                  exact ⟨by rw [getF_yes e0, e0, e2]; rfl, hE.below⟩
                · skip
                  have p20 : 2147483648 ≤ (m : Int) := of_decide_eq_true h20
                  refine wc_true rfl ?_
                  refine wc_region ?_
                  refine wl_val (.int .i64 (m : Int)) rfl (fun _ => rfl) ?_
                  simp only [Act.put, List.setIfInBounds_toArray, List.set_cons_zero, List.set_cons_succ]
                  refine wl_val (.int .i64 ((m : Int) - 4294967296)) rfl (fun w => run_arith (op := .sub) rfl rfl rfl Try.underlying2 (congrArg some (i64_in (by omega) (by omega))) w) ?_
                  simp only [Act.put, List.setIfInBounds_toArray, List.set_cons_zero, List.set_cons_succ]
                  refine wl_val (.int .i64 ((m : Int) - 4294967296)) rfl (fun _ => rfl) ?_
                  simp only [Act.put, List.setIfInBounds_toArray, List.set_cons_zero, List.set_cons_succ]
                  refine wl_nil ?_
                  refine we_then ?_
                  refine wc_seq ?_
                  refine wc_draw [.late, .plain, .plain, .late, .late, .plain, .plain, .late, .late, .late, .over, .late] (some ⟨10, g1, 53, #[.int .i64 0, .int .i64 0, .int .i64 0], #[.int .i64 (((L[0]!).toNat : Nat) : Int), .int .i64 (((L[1]!).toNat : Nat) : Int), .int .i64 ((m : Int) - 4294967296)]⟩) [] 86 (by kernel_rfl) rfl (by kernel_rfl) (by kernel_rfl) ?_
                  refine ws_late (.slice p L.length c) rfl rfl (fun _ => rfl) ?_
                  simp only [Nat.reduceAdd, Act.put, List.setIfInBounds_toArray, List.set_cons_zero, List.set_cons_succ]
                  refine ws_read (eaddr p (0 * 1)) rfl rfl (er_index 0 1 (sl_old hL) rfl rfl rfl rfl (by omega) (ub_len1 rfl) (by decide) Try.underlying45 (by kernel_rfl)) ?_
                  simp only [Nat.reduceAdd, Act.put, List.setIfInBounds_toArray, List.set_cons_zero, List.set_cons_succ]
                  refine ws_read (.int .u8 ((L[0]!).toNat : Int)) rfl rfl (er_cell (0 * 1) (.int .u8 ((L[0]!).toNat : Int)) (sl_old hL) rfl rfl (flat_cell (enc := ub) (fun _ => rfl) L 0 0 (by omega) (by decide)) Try.isAgg5) ?_
                  simp only [Nat.reduceAdd, Act.put, List.setIfInBounds_toArray, List.set_cons_zero, List.set_cons_succ]
                  have q24 : (L[0]!).toNat < 256 := ((L[0]!).toBitVec).isLt
                  refine ws_late (.int .i64 (((L[0]!).toNat : Nat) : Int)) rfl rfl (fun w => run_conv (X := ((L[0]!).toNat : Int)) rfl rfl Try.underlying5 Try.underlying3 (i64_in (by omega) (by omega)) w) ?_
                  simp only [Nat.reduceAdd, Act.put, List.setIfInBounds_toArray, List.set_cons_zero, List.set_cons_succ]
                  refine ws_late (.slice p L.length c) rfl rfl (fun _ => rfl) ?_
                  simp only [Nat.reduceAdd, Act.put, List.setIfInBounds_toArray, List.set_cons_zero, List.set_cons_succ]
                  refine ws_read (eaddr p (1 * 1)) rfl rfl (er_index 1 1 (sl_old hL) rfl rfl rfl rfl (by omega) (ub_len1 rfl) (by decide) Try.underlying45 (by kernel_rfl)) ?_
                  simp only [Nat.reduceAdd, Act.put, List.setIfInBounds_toArray, List.set_cons_zero, List.set_cons_succ]
                  refine ws_read (.int .u8 ((L[1]!).toNat : Int)) rfl rfl (er_cell (1 * 1) (.int .u8 ((L[1]!).toNat : Int)) (sl_old hL) rfl rfl (flat_cell (enc := ub) (fun _ => rfl) L 1 0 (by omega) (by decide)) Try.isAgg5) ?_
                  simp only [Nat.reduceAdd, Act.put, List.setIfInBounds_toArray, List.set_cons_zero, List.set_cons_succ]
                  have q25 : (L[1]!).toNat < 256 := ((L[1]!).toBitVec).isLt
                  refine ws_late (.int .i64 (((L[1]!).toNat : Nat) : Int)) rfl rfl (fun w => run_conv (X := ((L[1]!).toNat : Int)) rfl rfl Try.underlying5 Try.underlying3 (i64_in (by omega) (by omega)) w) ?_
                  simp only [Nat.reduceAdd, Act.put, List.setIfInBounds_toArray, List.set_cons_zero, List.set_cons_succ]
                  refine ws_late (.int .i64 ((m : Int) - 4294967296)) rfl rfl (fun _ => rfl) ?_
                  simp only [Nat.reduceAdd, Act.put, List.setIfInBounds_toArray, List.set_cons_zero, List.set_cons_succ]
                  refine ws_late (.agg #[.int .i64 (((L[0]!).toNat : Nat) : Int), .int .i64 (((L[1]!).toNat : Nat) : Int), .int .i64 ((m : Int) - 4294967296)]) rfl rfl (fun _ => by go_simp) ?_
                  simp only [Nat.reduceAdd, Act.put, List.setIfInBounds_toArray, List.set_cons_zero, List.set_cons_succ]
                  refine ws_over 0 _ 53 (.tmp 2) (.tmp 85) rfl rfl rfl rfl rfl rfl rfl rfl rfl (by kernel_rfl) rfl (by simp [Value.oneCell']) ?_
                  simp only [Nat.reduceAdd]
                  refine ws_late (.int .i64 0) rfl rfl (fun _ => rfl) ?_
                  simp only [Nat.reduceAdd, Act.put, List.setIfInBounds_toArray, List.set_cons_zero, List.set_cons_succ]
                  refine ws_nil_over 0 rfl (show 10 < 12 by decide) [] trivial (by simp) ?_
                  intro ps26
                  simp only [fin, List.foldl_nil, List.map, List.nil_append]
                  refine we_then ?_
                  refine wc_ret ?_
                  refine we_ret_cell_tmp (.int .i64 0) (own_row 0 rfl) rfl rfl rfl rfl Try.underlying53 rfl (by kernel_rfl) (fun w1 hE => ?_)
                  have e0 := get_good (L := L) (by omega) (by omega) (by omega) (by omega) h8
                  have e1 : i = 3 + ksize (hd L) := by omega
                  rw [e1, Nat.add_sub_cancel_left] at b3
                  have e2 : getV L = (m : Int) - 4294967296 := by unfold getV low; rw [← b3, if_pos ⟨by omega, by omega⟩]
                  exact ⟨by rw [getF_yes e0, e0, e2]; rfl, hE.below⟩
            · skip
              have p15 : (i : Int) < ((3 + (ksize (hd L)) : Nat) : Int) := of_decide_eq_true h15
              refine wc_true rfl ?_
              refine wc_skip ?_
              refine we_then ?_
              refine wc_seq ?_
              refine wc_block ?_
              refine wc_region ?_
              refine wl_val (.int .i64 (m : Int)) rfl (fun _ => rfl) ?_
              simp only [Act.put, List.setIfInBounds_toArray, List.set_cons_zero, List.set_cons_succ]
              refine wl_val (.int .i64 ((256 * m : Nat) : Int)) rfl (fun w => run_nat (X := 256) (Y := m) (Z := 256 * m) rfl rfl rfl rfl (by omega) w) ?_
              simp only [Act.put, List.setIfInBounds_toArray, List.set_cons_zero, List.set_cons_succ]
              refine wl_val (.slice p L.length c) rfl (fun _ => rfl) ?_
              simp only [Act.put, List.setIfInBounds_toArray, List.set_cons_zero, List.set_cons_succ]
              refine wl_val (.int .i64 (i : Int)) rfl (fun _ => rfl) ?_
              simp only [Act.put, List.setIfInBounds_toArray, List.set_cons_zero, List.set_cons_succ]
              refine wl_read (eaddr p (i * 1)) rfl (er_index i 1 (sl_old hL) rfl rfl rfl rfl (by omega) (ub_len1 rfl) (by decide) Try.underlying45 (by kernel_rfl)) ?_
              simp only [Act.put, List.setIfInBounds_toArray, List.set_cons_zero, List.set_cons_succ]
              refine wl_read (.int .u8 ((L[i]!).toNat : Int)) rfl (er_cell (i * 1) (.int .u8 ((L[i]!).toNat : Int)) (sl_old hL) rfl rfl (flat_cell (enc := ub) (fun _ => rfl) L i 0 (by omega) (by decide)) Try.isAgg5) ?_
              simp only [Act.put, List.setIfInBounds_toArray, List.set_cons_zero, List.set_cons_succ]
              have q27 : (L[i]!).toNat < 256 := ((L[i]!).toBitVec).isLt
              refine wl_val (.int .i64 (((L[i]!).toNat : Nat) : Int)) rfl (fun w => run_conv (X := ((L[i]!).toNat : Int)) rfl rfl Try.underlying5 Try.underlying2 (i64_in (by omega) (by omega)) w) ?_
              simp only [Act.put, List.setIfInBounds_toArray, List.set_cons_zero, List.set_cons_succ]
              refine wl_val (.int .i64 (((256 * m) + ((L[i]!).toNat) : Nat) : Int)) rfl (fun w => run_nat (X := 256 * m) (Y := (L[i]!).toNat) (Z := (256 * m) + ((L[i]!).toNat)) rfl rfl rfl rfl (by omega) w) ?_
              simp only [Act.put, List.setIfInBounds_toArray, List.set_cons_zero, List.set_cons_succ]
              refine wl_val (.int .i64 (((256 * m) + ((L[i]!).toNat) : Nat) : Int)) rfl (fun _ => rfl) ?_
              simp only [Act.put, List.setIfInBounds_toArray, List.set_cons_zero, List.set_cons_succ]
              refine wl_nil ?_
              refine we_in ?_
              refine we_then ?_
              refine wc_region ?_
              refine wl_val (.int .i64 (i : Int)) rfl (fun _ => rfl) ?_
              simp only [Act.put, List.setIfInBounds_toArray, List.set_cons_zero, List.set_cons_succ]
              refine wl_val (.int .i64 ((i + 1 : Nat) : Int)) rfl (fun w => run_nat (X := i) (Y := 1) (Z := i + 1) rfl rfl rfl rfl (by omega) w) ?_
              simp only [Act.put, List.setIfInBounds_toArray, List.set_cons_zero, List.set_cons_succ]
              refine wl_val (.int .i64 ((i + 1 : Nat) : Int)) rfl (fun _ => rfl) ?_
              simp only [Act.put, List.setIfInBounds_toArray, List.set_cons_zero, List.set_cons_succ]
              refine wl_nil ?_
              exact we_meet ⟨(i + 1), ((256 * m) + ((L[i]!).toNat)), _, _, _, _, _, _, _, _, _, _, _, _, _, _⟩ (by (try dsimp only); exact ⟨⟨by omega, by omega, by rw [num_next L i (by omega) (by omega), ← b3]⟩, by omega⟩) rfl (List.Sublist.cons_cons _ List.Sublist.slnil)
        · skip
          have p7 : (L.length : Int) ≠ ((5 + (ksize (hd L)) : Nat) : Int) := by simpa using h7
          refine wc_true rfl ?_
          refine wc_seq ?_
          refine wc_region ?_
          refine wl_val (.agg #[.int .i64 0, .int .i64 0, .int .i64 0]) rfl (fun _ => by go_simp) ?_
          simp only [Act.put, List.setIfInBounds_toArray, List.set_cons_zero, List.set_cons_succ]
          refine wl_store 0 53 (.tmp 2) (.tmp 32) (#[.int .i64 0, .int .i64 0, .int .i64 0]) rfl rfl rfl rfl rfl (by kernel_rfl) rfl (by simp [Value.oneCell']) ?_
          simp only [Act.put, List.set_cons_zero]
          refine wl_val (.int .i64 11) rfl (fun _ => rfl) ?_
          simp only [Act.put, List.setIfInBounds_toArray, List.set_cons_zero, List.set_cons_succ]
          refine wl_nil ?_
          refine we_then ?_
          refine wc_ret ?_
          refine we_then_ret ?_
          refine we_ret_cell_tmp (.int .i64 11) (own_row 0 rfl) rfl rfl rfl rfl Try.underlying53 rfl (by kernel_rfl) (fun w1 hE => ?_)
          have e1 := get_form (L := L) (by omega) (by omega) (by omega)
          exact ⟨by rw [getF_no e1 (by decide), e1]; rfl, hE.below⟩
      · skip
        have p6 : (((L[2]!).toNat : Nat) : Int) ≠ ((ksize (hd L) : Nat) : Int) := by simpa using h6
        refine wl_skip rfl ?_
        simp only [Act.put, List.setIfInBounds_toArray, List.set_cons_zero, List.set_cons_succ]
        refine wl_skip rfl ?_
        simp only [Act.put, List.setIfInBounds_toArray, List.set_cons_zero, List.set_cons_succ]
        refine wl_skip rfl ?_
        simp only [Act.put, List.setIfInBounds_toArray, List.set_cons_zero, List.set_cons_succ]
        refine wl_skip rfl ?_
        simp only [Act.put, List.setIfInBounds_toArray, List.set_cons_zero, List.set_cons_succ]
        refine wl_skip rfl ?_
        simp only [Act.put, List.setIfInBounds_toArray, List.set_cons_zero, List.set_cons_succ]
        refine wl_val (.bool true) rfl (fun _ => rfl) ?_
        simp only [Act.put, List.setIfInBounds_toArray, List.set_cons_zero, List.set_cons_succ]
        refine wl_nil ?_
        refine we_then ?_
        refine wc_true rfl ?_
        refine wc_seq ?_
        refine wc_region ?_
        refine wl_val (.agg #[.int .i64 0, .int .i64 0, .int .i64 0]) rfl (fun _ => by go_simp) ?_
        simp only [Act.put, List.setIfInBounds_toArray, List.set_cons_zero, List.set_cons_succ]
        refine wl_store 0 53 (.tmp 2) (.tmp 32) (#[.int .i64 0, .int .i64 0, .int .i64 0]) rfl rfl rfl rfl rfl (by kernel_rfl) rfl (by simp [Value.oneCell']) ?_
        simp only [Act.put, List.set_cons_zero]
        refine wl_val (.int .i64 11) rfl (fun _ => rfl) ?_
        simp only [Act.put, List.setIfInBounds_toArray, List.set_cons_zero, List.set_cons_succ]
        refine wl_nil ?_
        refine we_then ?_
        refine wc_ret ?_
        refine we_then_ret ?_
        refine we_ret_cell_tmp (.int .i64 11) (own_row 0 rfl) rfl rfl rfl rfl Try.underlying53 rfl (by kernel_rfl) (fun w1 hE => ?_)
        have e1 := get_form (L := L) (by omega) (by omega) (by omega)
        exact ⟨by rw [getF_no e1 (by decide), e1]; rfl, hE.below⟩
    · skip
      have p4 : ((ksize (hd L) : Nat) : Int) = 0 := by simpa using h4
      refine wc_true rfl ?_
      refine wc_seq ?_
      refine wc_region ?_
      refine wl_val (.agg #[.int .i64 0, .int .i64 0, .int .i64 0]) rfl (fun _ => by go_simp) ?_
      simp only [Act.put, List.setIfInBounds_toArray, List.set_cons_zero, List.set_cons_succ]
      refine wl_store 0 53 (.tmp 2) (.tmp 18) (#[.int .i64 0, .int .i64 0, .int .i64 0]) rfl rfl rfl rfl rfl (by kernel_rfl) rfl (by simp [Value.oneCell']) ?_
      simp only [Act.put, List.set_cons_zero]
      refine wl_val (.int .i64 30) rfl (fun _ => rfl) ?_
      simp only [Act.put, List.setIfInBounds_toArray, List.set_cons_zero, List.set_cons_succ]
      refine wl_nil ?_
      refine we_then ?_
      refine wc_ret ?_
      refine we_then_ret ?_
      refine we_ret_cell_tmp (.int .i64 30) (own_row 0 rfl) rfl rfl rfl rfl Try.underlying53 rfl (by kernel_rfl) (fun w1 hE => ?_)
      have e1 := get_kind (L := L) (by omega) (by omega)
      exact ⟨by rw [getF_no e1 (by decide), e1]; rfl, hE.below⟩
  · skip
    have p2 : (L.length : Int) < 5 := of_decide_eq_true h2
    refine wc_true rfl ?_
    refine wc_seq ?_
    refine wc_region ?_
    refine wl_val (.agg #[.int .i64 0, .int .i64 0, .int .i64 0]) rfl (fun _ => by go_simp) ?_
    simp only [Act.put, List.setIfInBounds_toArray, List.set_cons_zero, List.set_cons_succ]
    refine wl_store 0 53 (.tmp 2) (.tmp 10) (#[.int .i64 0, .int .i64 0, .int .i64 0]) rfl rfl rfl rfl rfl (by kernel_rfl) rfl (by simp [Value.oneCell']) ?_
    simp only [Act.put, List.set_cons_zero]
    refine wl_val (.int .i64 14) rfl (fun _ => rfl) ?_
    simp only [Act.put, List.setIfInBounds_toArray, List.set_cons_zero, List.set_cons_succ]
    refine wl_nil ?_
    refine we_then ?_
    refine wc_ret ?_
    refine we_then_ret ?_
    refine we_ret_cell_tmp (.int .i64 14) (own_row 0 rfl) rfl rfl rfl rfl Try.underlying53 rfl (by kernel_rfl) (fun w1 hE => ?_)
    have e1 := get_short (L := L) (by omega)
    exact ⟨by rw [getF_no e1 (by decide), e1]; rfl, hE.below⟩
end Go.Proofs.Ytggdmchhnnjfiaa.Fref
