/-
  The walk of WideShifts: for any number of 128 bits and any count it returns true. No condition.
-/
import Derived.Test.YtjniohijomoakaaWideBackWalk
namespace Go.Proofs.Ytjniohijomoakaa.Walks
open Go.ChangeShapes Go.WideShapes Go.ChangeAt Go.RowKit
open Arr Bt Ref Wide Steady
set_option linter.unusedVariables false
set_option maxRecDepth 100000

theorem int_of_wf {a : Int} (h : (Lit.int .i64 a).wf = true) : -9223372036854775808 ≤ a ∧ a ≤ 9223372036854775807 := by
  simpa [Lit.wf, IntKind.min, IntKind.max, IntKind.bits, IntKind.signed] using h
theorem bv_mod (n : Nat) : bv (n % 340282366920938463463374607431768211456) = bv n := by
  unfold bv
  refine ints_congr 128 _ _ (fun i hi => ?_)
  unfold bt
  have e : (340282366920938463463374607431768211456 : Nat) = 2 ^ i * 2 ^ (127 - i + 1) := by rw [← Nat.pow_add, show i + (127 - i + 1) = 128 by omega]
  rw [e, Nat.mod_mul_right_div_self, Nat.mod_mod_of_dvd _ ⟨2 ^ (127 - i), by rw [Nat.pow_succ, Nat.mul_comm]⟩]
theorem len_same (n : Nat) (l : Nat) (w : World) (hn : W128 n) (hl : IsLen n l) :
    Calls Try.prog 19 #[.agg (bv n)] w fun e w' => e = .returned (.int .i64 l) ∧ Below w.heap.size w w' :=
  (len_any n w hn).mono fun e w' ⟨⟨k, he, hk, _⟩, hb⟩ => by
    obtain rfl : k = l := isLen_unique hk hl
    exact ⟨he, hb⟩
theorem len_ex (xh xl : Nat) (h1 : H xh) (h2 : H xl) : ∃ l : Nat, IsLen (num xh xl) l ∧ ∀ w, Calls Try.prog 18 #[.agg #[.int .u64 xh, .int .u64 xl]] w fun e w' => e = .returned (.int .i64 l) ∧ Below w.heap.size w w' := by
  have hx : ∃ l, IsLen (num xh xl) l := by
    rcases Nat.eq_zero_or_pos xh with e | e
    · subst e
      exact ⟨_, by rw [show num 0 xl = xl by unfold num; omega]; exact bitLen_isLen h2⟩
    · exact ⟨_, isLen_high h2 e (bitLen_isLen h1)⟩
  obtain ⟨l, hl⟩ := hx
  refine ⟨l, hl, fun w => (len_halves xh xl w h1 h2).mono fun e w' ⟨⟨k, he, hk⟩, hb⟩ => ?_⟩
  obtain rfl : k = l := isLen_unique hk hl
  exact ⟨he, hb⟩
theorem shl_any (xh xl k : Nat) (w : World) (h1 : H xh) (h2 : H xl) (hb : k ≤ 9223372036854775807) :
    Calls Try.prog 20 #[.agg #[.int .u64 xh, .int .u64 xl], .int .i64 k] w fun e w' => e = .returned (UV (num xh xl * 2 ^ k % 340282366920938463463374607431768211456)) ∧ Below w.heap.size w w' := by
  rcases Nat.lt_or_ge k 64 with h | h
  · exact shl_near xh xl k w h1 h2 h
  · exact shl_far xh xl k w h1 h2 h hb
theorem shr_any (xh xl k : Nat) (w : World) (h1 : H xh) (h2 : H xl) (hb : k ≤ 9223372036854775807) :
    Calls Try.prog 21 #[.agg #[.int .u64 xh, .int .u64 xl], .int .i64 k] w fun e w' => e = .returned (UV (num xh xl / 2 ^ k)) ∧ Below w.heap.size w w' := by
  rcases Nat.lt_or_ge k 64 with h | h
  · exact shr_near xh xl k w h1 h2 h
  · exact shr_far xh xl k w h1 h2 h hb
theorem uv_same {xh xl : Nat} (h1 : H xh) (h2 : H xl) : UV (num xh xl % 340282366920938463463374607431768211456) = .agg #[.int .u64 xh, .int .u64 xl] := by
  have hN := num_lt h1 h2
  rw [Nat.mod_eq_of_lt hN, uv_num h2]
set_option maxHeartbeats 4000000 in
theorem shifts_neg (xh xl : Nat) (n : Int) (hneg : n < 0) (h1 : H xh) (h2 : H xl) (w : World) :
    Calls Try.prog 5 #[.agg #[.int .u64 xh, .int .u64 xl], .int .i64 n] w fun e w' => e = .returned (.bool true) ∧ Below w.heap.size w w' := by
  have cb : ∀ W, Calls Try.prog 10 #[.agg #[.int .u64 xh, .int .u64 xl]] W fun e w' => e = .returned (.agg (bv (num xh xl))) ∧ Below W.heap.size W w' := fun W => bits_any xh xl W h1 h2
  have hN := num_lt h1 h2
  obtain ⟨l, hl, cl⟩ := len_ex xh xl h1 h2
  have cL := fun W => len_same (num xh xl) l W hN hl
  have HN := Lib.hid (And.intro h1 (And.intro h2 hN))
  clear hN hl h1 h2
  go_enter Try.func5, Try.ntmps5
  go_upto_region 3 with (go_at_call 9; ((with_reducible refine (anchor_any _).mono ?_); rintro e w1 ⟨rfl, g1⟩))
  have hB1 : Below w.heap.size w w1 := ((Below.refl _ _).alloc (Nat.le_refl _) _).trans (g1.mono (by simp))
  have q0 := below_row g1 (by simp) (heap_alloc_new w (.cells #[.int .u64 xh, .int .u64 xl] 28))
  clear g1
  refine wp_region_steady [.plain, .plain, .plain, .plain, .plain, .late] none [] 47 (by kernel_rfl) rfl (by kernel_rfl) (by kernel_rfl) ?_
  refine st_load 28 (.tmp 2) (w.heap.size) _ _ _ _ rfl rfl rfl rfl q0 Try.underlying28 rfl infoW ?_
  simp only [Nat.reduceAdd, Act.put, List.setIfInBounds_toArray, List.set_cons_zero, List.set_cons_succ]
  refine st_call 18 #[.agg #[.int .u64 xh, .int .u64 xl]] (.int .i64 l) rfl rfl (fun _ => by go_simp) (cl) ?_
  simp only [Nat.reduceAdd, Act.put, List.setIfInBounds_toArray, List.set_cons_zero, List.set_cons_succ]
  refine st_load 28 (.tmp 2) (w.heap.size) _ _ _ _ rfl rfl rfl rfl q0 Try.underlying28 rfl infoW ?_
  simp only [Nat.reduceAdd, Act.put, List.setIfInBounds_toArray, List.set_cons_zero, List.set_cons_succ]
  refine st_call 10 #[.agg #[.int .u64 xh, .int .u64 xl]] (.agg (bv (num xh xl))) rfl rfl (fun _ => by go_simp) (cb) ?_
  simp only [Nat.reduceAdd, Act.put, List.setIfInBounds_toArray, List.set_cons_zero, List.set_cons_succ]
  refine st_call 19 #[.agg (bv (num xh xl))] (.int .i64 l) rfl rfl (fun _ => by go_simp) (cL) ?_
  simp only [Nat.reduceAdd, Act.put, List.setIfInBounds_toArray, List.set_cons_zero, List.set_cons_succ]
  refine st_late (.bool false) rfl rfl (fun _ => by go_simp) ?_
  simp only [Nat.reduceAdd, Act.put, List.setIfInBounds_toArray, List.set_cons_zero, List.set_cons_succ]
  refine st_nil ?_
  intro phwd whwd hwd
  simp only [fin, List.foldl_nil]
  have hB3 := hB1.drew.trans (hwd.below.mono hB1.size)
  have q3 := below_row hwd.below (lt_of_row q0) q0
  clear hwd hB1 q0 cl cL
  have q0 := q3
  clear q3
  obtain ⟨h1, h2, hN⟩ := HN.out
  have c1 := fun W => shl_neg xh xl n W hneg
  have c2 := fun W => shr_neg xh xl n W hneg
  have t1 : n ≤ 0 := by omega
  clear h1 h2 hN HN hneg
  go_wp2
  refine wp_region_steady [.plain, .late, .plain, .plain, .late, .late, .plain, .late, .plain, .plain, .late, .late, .late] none [] 47 (by kernel_rfl) rfl (by kernel_rfl) (by kernel_rfl) ?_
  refine st_load 28 (.tmp 2) (w.heap.size) _ _ _ _ rfl rfl rfl rfl q0 Try.underlying28 rfl infoW ?_
  simp only [Nat.reduceAdd, Act.put, List.setIfInBounds_toArray, List.set_cons_zero, List.set_cons_succ]
  refine st_late (.int .i64 n) rfl rfl (fun _ => rfl) ?_
  simp only [Nat.reduceAdd, Act.put, List.setIfInBounds_toArray, List.set_cons_zero, List.set_cons_succ]
  refine st_call 20 #[.agg #[.int .u64 xh, .int .u64 xl], .int .i64 n] (.agg #[.int .u64 xh, .int .u64 xl]) rfl rfl (fun _ => by go_simp) (c1) ?_
  simp only [Nat.reduceAdd, Act.put, List.setIfInBounds_toArray, List.set_cons_zero, List.set_cons_succ]
  refine st_load 28 (.tmp 2) (w.heap.size) _ _ _ _ rfl rfl rfl rfl q0 Try.underlying28 rfl infoW ?_
  simp only [Nat.reduceAdd, Act.put, List.setIfInBounds_toArray, List.set_cons_zero, List.set_cons_succ]
  refine st_late (.bool true) rfl rfl (fun _ => by go_simp) ?_
  simp only [Nat.reduceAdd, Act.put, List.setIfInBounds_toArray, List.set_cons_zero, List.set_cons_succ]
  refine st_late (.bool true) rfl rfl (fun _ => rfl) ?_
  simp only [Nat.reduceAdd, Act.put, List.setIfInBounds_toArray, List.set_cons_zero, List.set_cons_succ]
  refine st_load 28 (.tmp 2) (w.heap.size) _ _ _ _ rfl rfl rfl rfl q0 Try.underlying28 rfl infoW ?_
  simp only [Nat.reduceAdd, Act.put, List.setIfInBounds_toArray, List.set_cons_zero, List.set_cons_succ]
  refine st_late (.int .i64 n) rfl rfl (fun _ => rfl) ?_
  simp only [Nat.reduceAdd, Act.put, List.setIfInBounds_toArray, List.set_cons_zero, List.set_cons_succ]
  refine st_call 21 #[.agg #[.int .u64 xh, .int .u64 xl], .int .i64 n] (.agg #[.int .u64 xh, .int .u64 xl]) rfl rfl (fun _ => by go_simp) (c2) ?_
  simp only [Nat.reduceAdd, Act.put, List.setIfInBounds_toArray, List.set_cons_zero, List.set_cons_succ]
  refine st_load 28 (.tmp 2) (w.heap.size) _ _ _ _ rfl rfl rfl rfl q0 Try.underlying28 rfl infoW ?_
  simp only [Nat.reduceAdd, Act.put, List.setIfInBounds_toArray, List.set_cons_zero, List.set_cons_succ]
  refine st_late (.bool true) rfl rfl (fun _ => by go_simp) ?_
  simp only [Nat.reduceAdd, Act.put, List.setIfInBounds_toArray, List.set_cons_zero, List.set_cons_succ]
  refine st_late (.bool true) rfl rfl (fun _ => by go_simp) ?_
  simp only [Nat.reduceAdd, Act.put, List.setIfInBounds_toArray, List.set_cons_zero, List.set_cons_succ]
  refine st_late (.bool true) rfl rfl (fun _ => rfl) ?_
  simp only [Nat.reduceAdd, Act.put, List.setIfInBounds_toArray, List.set_cons_zero, List.set_cons_succ]
  refine st_nil ?_
  intro phwe whwe hwe
  simp only [fin, List.foldl_nil]
  have hB4 := hB3.drew.trans (hwe.below.mono hB3.size)
  go_wp2
  go_ret
  exact ⟨rfl, hB4⟩
set_option maxHeartbeats 4000000 in
theorem shifts_zero (xh xl : Nat)  (h1 : H xh) (h2 : H xl) (w : World) :
    Calls Try.prog 5 #[.agg #[.int .u64 xh, .int .u64 xl], .int .i64 0] w fun e w' => e = .returned (.bool true) ∧ Below w.heap.size w w' := by
  have cb : ∀ W, Calls Try.prog 10 #[.agg #[.int .u64 xh, .int .u64 xl]] W fun e w' => e = .returned (.agg (bv (num xh xl))) ∧ Below W.heap.size W w' := fun W => bits_any xh xl W h1 h2
  have hN := num_lt h1 h2
  obtain ⟨l, hl, cl⟩ := len_ex xh xl h1 h2
  have cL := fun W => len_same (num xh xl) l W hN hl
  have HN := Lib.hid (And.intro h1 (And.intro h2 hN))
  clear hN hl h1 h2
  go_enter Try.func5, Try.ntmps5
  go_upto_region 3 with (go_at_call 9; ((with_reducible refine (anchor_any _).mono ?_); rintro e w1 ⟨rfl, g1⟩))
  have hB1 : Below w.heap.size w w1 := ((Below.refl _ _).alloc (Nat.le_refl _) _).trans (g1.mono (by simp))
  have q0 := below_row g1 (by simp) (heap_alloc_new w (.cells #[.int .u64 xh, .int .u64 xl] 28))
  clear g1
  refine wp_region_steady [.plain, .plain, .plain, .plain, .plain, .late] none [] 47 (by kernel_rfl) rfl (by kernel_rfl) (by kernel_rfl) ?_
  refine st_load 28 (.tmp 2) (w.heap.size) _ _ _ _ rfl rfl rfl rfl q0 Try.underlying28 rfl infoW ?_
  simp only [Nat.reduceAdd, Act.put, List.setIfInBounds_toArray, List.set_cons_zero, List.set_cons_succ]
  refine st_call 18 #[.agg #[.int .u64 xh, .int .u64 xl]] (.int .i64 l) rfl rfl (fun _ => by go_simp) (cl) ?_
  simp only [Nat.reduceAdd, Act.put, List.setIfInBounds_toArray, List.set_cons_zero, List.set_cons_succ]
  refine st_load 28 (.tmp 2) (w.heap.size) _ _ _ _ rfl rfl rfl rfl q0 Try.underlying28 rfl infoW ?_
  simp only [Nat.reduceAdd, Act.put, List.setIfInBounds_toArray, List.set_cons_zero, List.set_cons_succ]
  refine st_call 10 #[.agg #[.int .u64 xh, .int .u64 xl]] (.agg (bv (num xh xl))) rfl rfl (fun _ => by go_simp) (cb) ?_
  simp only [Nat.reduceAdd, Act.put, List.setIfInBounds_toArray, List.set_cons_zero, List.set_cons_succ]
  refine st_call 19 #[.agg (bv (num xh xl))] (.int .i64 l) rfl rfl (fun _ => by go_simp) (cL) ?_
  simp only [Nat.reduceAdd, Act.put, List.setIfInBounds_toArray, List.set_cons_zero, List.set_cons_succ]
  refine st_late (.bool false) rfl rfl (fun _ => by go_simp) ?_
  simp only [Nat.reduceAdd, Act.put, List.setIfInBounds_toArray, List.set_cons_zero, List.set_cons_succ]
  refine st_nil ?_
  intro phwd whwd hwd
  simp only [fin, List.foldl_nil]
  have hB3 := hB1.drew.trans (hwd.below.mono hB1.size)
  have q3 := below_row hwd.below (lt_of_row q0) q0
  clear hwd hB1 q0 cl cL
  have q0 := q3
  clear q3
  obtain ⟨h1, h2, hN⟩ := HN.out
  have c1 : ∀ W, Calls Try.prog 20 #[.agg #[.int .u64 xh, .int .u64 xl], .int .i64 0] W fun e w' => e = .returned (.agg #[.int .u64 xh, .int .u64 xl]) ∧ Below W.heap.size W w' := fun W => by
    have c := shl_any xh xl 0 W h1 h2 (by omega)
    rw [Nat.pow_zero, Nat.mul_one, uv_same h1 h2] at c
    exact c
  have c2 : ∀ W, Calls Try.prog 21 #[.agg #[.int .u64 xh, .int .u64 xl], .int .i64 0] W fun e w' => e = .returned (.agg #[.int .u64 xh, .int .u64 xl]) ∧ Below W.heap.size W w' := fun W => by
    have c := shr_any xh xl 0 W h1 h2 (by omega)
    rw [Nat.pow_zero, Nat.div_one, uv_num h2] at c
    exact c
  clear h1 h2 hN HN
  go_wp2
  refine wp_region_steady [.plain, .late, .plain, .plain, .late, .late, .plain, .late, .plain, .plain, .late, .late, .late] none [] 47 (by kernel_rfl) rfl (by kernel_rfl) (by kernel_rfl) ?_
  refine st_load 28 (.tmp 2) (w.heap.size) _ _ _ _ rfl rfl rfl rfl q0 Try.underlying28 rfl infoW ?_
  simp only [Nat.reduceAdd, Act.put, List.setIfInBounds_toArray, List.set_cons_zero, List.set_cons_succ]
  refine st_late (.int .i64 0) rfl rfl (fun _ => rfl) ?_
  simp only [Nat.reduceAdd, Act.put, List.setIfInBounds_toArray, List.set_cons_zero, List.set_cons_succ]
  refine st_call 20 #[.agg #[.int .u64 xh, .int .u64 xl], .int .i64 0] (.agg #[.int .u64 xh, .int .u64 xl]) rfl rfl (fun _ => by go_simp) (c1) ?_
  simp only [Nat.reduceAdd, Act.put, List.setIfInBounds_toArray, List.set_cons_zero, List.set_cons_succ]
  refine st_load 28 (.tmp 2) (w.heap.size) _ _ _ _ rfl rfl rfl rfl q0 Try.underlying28 rfl infoW ?_
  simp only [Nat.reduceAdd, Act.put, List.setIfInBounds_toArray, List.set_cons_zero, List.set_cons_succ]
  refine st_late (.bool true) rfl rfl (fun _ => by go_simp) ?_
  simp only [Nat.reduceAdd, Act.put, List.setIfInBounds_toArray, List.set_cons_zero, List.set_cons_succ]
  refine st_late (.bool true) rfl rfl (fun _ => rfl) ?_
  simp only [Nat.reduceAdd, Act.put, List.setIfInBounds_toArray, List.set_cons_zero, List.set_cons_succ]
  refine st_load 28 (.tmp 2) (w.heap.size) _ _ _ _ rfl rfl rfl rfl q0 Try.underlying28 rfl infoW ?_
  simp only [Nat.reduceAdd, Act.put, List.setIfInBounds_toArray, List.set_cons_zero, List.set_cons_succ]
  refine st_late (.int .i64 0) rfl rfl (fun _ => rfl) ?_
  simp only [Nat.reduceAdd, Act.put, List.setIfInBounds_toArray, List.set_cons_zero, List.set_cons_succ]
  refine st_call 21 #[.agg #[.int .u64 xh, .int .u64 xl], .int .i64 0] (.agg #[.int .u64 xh, .int .u64 xl]) rfl rfl (fun _ => by go_simp) (c2) ?_
  simp only [Nat.reduceAdd, Act.put, List.setIfInBounds_toArray, List.set_cons_zero, List.set_cons_succ]
  refine st_load 28 (.tmp 2) (w.heap.size) _ _ _ _ rfl rfl rfl rfl q0 Try.underlying28 rfl infoW ?_
  simp only [Nat.reduceAdd, Act.put, List.setIfInBounds_toArray, List.set_cons_zero, List.set_cons_succ]
  refine st_late (.bool true) rfl rfl (fun _ => by go_simp) ?_
  simp only [Nat.reduceAdd, Act.put, List.setIfInBounds_toArray, List.set_cons_zero, List.set_cons_succ]
  refine st_late (.bool true) rfl rfl (fun _ => by go_simp) ?_
  simp only [Nat.reduceAdd, Act.put, List.setIfInBounds_toArray, List.set_cons_zero, List.set_cons_succ]
  refine st_late (.bool true) rfl rfl (fun _ => rfl) ?_
  simp only [Nat.reduceAdd, Act.put, List.setIfInBounds_toArray, List.set_cons_zero, List.set_cons_succ]
  refine st_nil ?_
  intro phwe whwe hwe
  simp only [fin, List.foldl_nil]
  have hB4 := hB3.drew.trans (hwe.below.mono hB3.size)
  go_wp2
  go_ret
  exact ⟨rfl, hB4⟩
set_option maxHeartbeats 4000000 in
theorem shifts_core (xh xl k up dn uh ul dh dl l N : Nat) (w : World)
    (cb : ∀ W, Calls Try.prog 10 #[.agg #[.int .u64 xh, .int .u64 xl]] W fun e w' => e = .returned (.agg (bv N)) ∧ Below W.heap.size W w')
    (cl : ∀ W, Calls Try.prog 18 #[.agg #[.int .u64 xh, .int .u64 xl]] W fun e w' => e = .returned (.int .i64 l) ∧ Below W.heap.size W w')
    (cL : ∀ W, Calls Try.prog 19 #[.agg (bv N)] W fun e w' => e = .returned (.int .i64 l) ∧ Below W.heap.size W w')
    (c1 : ∀ W, Calls Try.prog 20 #[.agg #[.int .u64 xh, .int .u64 xl], .int .i64 k] W fun e w' => e = .returned (.agg #[.int .u64 uh, .int .u64 ul]) ∧ Below W.heap.size W w')
    (c2 : ∀ W, Calls Try.prog 21 #[.agg #[.int .u64 xh, .int .u64 xl], .int .i64 k] W fun e w' => e = .returned (.agg #[.int .u64 dh, .int .u64 dl]) ∧ Below W.heap.size W w')
    (c1b : ∀ W, Calls Try.prog 10 #[.agg #[.int .u64 uh, .int .u64 ul]] W fun e w' => e = .returned (.agg (bv up)) ∧ Below W.heap.size W w')
    (c2b : ∀ W, Calls Try.prog 10 #[.agg #[.int .u64 dh, .int .u64 dl]] W fun e w' => e = .returned (.agg (bv dn)) ∧ Below W.heap.size W w')
    (c1r : ∀ W, Calls Try.prog 22 #[.agg (bv N), .int .i64 k] W fun e w' => e = .returned (.agg (bv up)) ∧ Below W.heap.size W w')
    (c2r : ∀ W, Calls Try.prog 23 #[.agg (bv N), .int .i64 k] W fun e w' => e = .returned (.agg (bv dn)) ∧ Below W.heap.size W w')
    (t1 : ¬ ((k : Int) ≤ 0)) :
    Calls Try.prog 5 #[.agg #[.int .u64 xh, .int .u64 xl], .int .i64 k] w fun e w' => e = .returned (.bool true) ∧ Below w.heap.size w w' := by
  have hu := eql_bv up
  have hd := eql_bv dn
  go_enter Try.func5, Try.ntmps5
  go_upto_region 3 with (go_at_call 9; ((with_reducible refine (anchor_any _).mono ?_); rintro e w1 ⟨rfl, g1⟩))
  have hB1 : Below w.heap.size w w1 := ((Below.refl _ _).alloc (Nat.le_refl _) _).trans (g1.mono (by simp))
  have q0 := below_row g1 (by simp) (heap_alloc_new w (.cells #[.int .u64 xh, .int .u64 xl] 28))
  clear g1
  refine wp_region_steady [.plain, .plain, .plain, .plain, .plain, .late] none [] 47 (by kernel_rfl) rfl (by kernel_rfl) (by kernel_rfl) ?_
  refine st_load 28 (.tmp 2) (w.heap.size) _ _ _ _ rfl rfl rfl rfl q0 Try.underlying28 rfl infoW ?_
  simp only [Nat.reduceAdd, Act.put, List.setIfInBounds_toArray, List.set_cons_zero, List.set_cons_succ]
  refine st_call 18 #[.agg #[.int .u64 xh, .int .u64 xl]] (.int .i64 l) rfl rfl (fun _ => by go_simp) (cl) ?_
  simp only [Nat.reduceAdd, Act.put, List.setIfInBounds_toArray, List.set_cons_zero, List.set_cons_succ]
  refine st_load 28 (.tmp 2) (w.heap.size) _ _ _ _ rfl rfl rfl rfl q0 Try.underlying28 rfl infoW ?_
  simp only [Nat.reduceAdd, Act.put, List.setIfInBounds_toArray, List.set_cons_zero, List.set_cons_succ]
  refine st_call 10 #[.agg #[.int .u64 xh, .int .u64 xl]] (.agg (bv (N))) rfl rfl (fun _ => by go_simp) (cb) ?_
  simp only [Nat.reduceAdd, Act.put, List.setIfInBounds_toArray, List.set_cons_zero, List.set_cons_succ]
  refine st_call 19 #[.agg (bv (N))] (.int .i64 l) rfl rfl (fun _ => by go_simp) (cL) ?_
  simp only [Nat.reduceAdd, Act.put, List.setIfInBounds_toArray, List.set_cons_zero, List.set_cons_succ]
  refine st_late (.bool false) rfl rfl (fun _ => by go_simp) ?_
  simp only [Nat.reduceAdd, Act.put, List.setIfInBounds_toArray, List.set_cons_zero, List.set_cons_succ]
  refine st_nil ?_
  intro phwd whwd hwd
  simp only [fin, List.foldl_nil]
  have hB3 := hB1.drew.trans (hwd.below.mono hB1.size)
  have q3 := below_row hwd.below (lt_of_row q0) q0
  clear hwd hB1 q0 cl cL
  have q0 := q3
  clear q3
  go_wp2
  refine wp_region_steady [.plain, .late, .plain, .plain, .plain, .plain, .late, .plain, .late, .late, .plain, .late, .plain, .plain, .plain, .plain, .late, .plain, .late, .late, .late] none [] 47 (by kernel_rfl) rfl (by kernel_rfl) (by kernel_rfl) ?_
  refine st_load 28 (.tmp 2) (w.heap.size) _ _ _ _ rfl rfl rfl rfl q0 Try.underlying28 rfl infoW ?_
  simp only [Nat.reduceAdd, Act.put, List.setIfInBounds_toArray, List.set_cons_zero, List.set_cons_succ]
  refine st_late (.int .i64 k) rfl rfl (fun _ => rfl) ?_
  simp only [Nat.reduceAdd, Act.put, List.setIfInBounds_toArray, List.set_cons_zero, List.set_cons_succ]
  refine st_call 20 #[.agg #[.int .u64 xh, .int .u64 xl], .int .i64 k] (.agg #[.int .u64 uh, .int .u64 ul]) rfl rfl (fun _ => by go_simp) (c1) ?_
  simp only [Nat.reduceAdd, Act.put, List.setIfInBounds_toArray, List.set_cons_zero, List.set_cons_succ]
  refine st_call 10 #[.agg #[.int .u64 uh, .int .u64 ul]] (.agg (bv up)) rfl rfl (fun _ => by go_simp) (c1b) ?_
  simp only [Nat.reduceAdd, Act.put, List.setIfInBounds_toArray, List.set_cons_zero, List.set_cons_succ]
  refine st_load 28 (.tmp 2) (w.heap.size) _ _ _ _ rfl rfl rfl rfl q0 Try.underlying28 rfl infoW ?_
  simp only [Nat.reduceAdd, Act.put, List.setIfInBounds_toArray, List.set_cons_zero, List.set_cons_succ]
  refine st_call 10 #[.agg #[.int .u64 xh, .int .u64 xl]] (.agg (bv (N))) rfl rfl (fun _ => by go_simp) (cb) ?_
  simp only [Nat.reduceAdd, Act.put, List.setIfInBounds_toArray, List.set_cons_zero, List.set_cons_succ]
  refine st_late (.int .i64 k) rfl rfl (fun _ => rfl) ?_
  simp only [Nat.reduceAdd, Act.put, List.setIfInBounds_toArray, List.set_cons_zero, List.set_cons_succ]
  refine st_call 22 #[.agg (bv (N)), .int .i64 k] (.agg (bv up)) rfl rfl (fun _ => by go_simp) (c1r) ?_
  simp only [Nat.reduceAdd, Act.put, List.setIfInBounds_toArray, List.set_cons_zero, List.set_cons_succ]
  refine st_late (.bool true) rfl rfl (fun _ => by go_simp) ?_
  simp only [Nat.reduceAdd, Act.put, List.setIfInBounds_toArray, List.set_cons_zero, List.set_cons_succ]
  refine st_late (.bool true) rfl rfl (fun _ => rfl) ?_
  simp only [Nat.reduceAdd, Act.put, List.setIfInBounds_toArray, List.set_cons_zero, List.set_cons_succ]
  refine st_load 28 (.tmp 2) (w.heap.size) _ _ _ _ rfl rfl rfl rfl q0 Try.underlying28 rfl infoW ?_
  simp only [Nat.reduceAdd, Act.put, List.setIfInBounds_toArray, List.set_cons_zero, List.set_cons_succ]
  refine st_late (.int .i64 k) rfl rfl (fun _ => rfl) ?_
  simp only [Nat.reduceAdd, Act.put, List.setIfInBounds_toArray, List.set_cons_zero, List.set_cons_succ]
  refine st_call 21 #[.agg #[.int .u64 xh, .int .u64 xl], .int .i64 k] (.agg #[.int .u64 dh, .int .u64 dl]) rfl rfl (fun _ => by go_simp) (c2) ?_
  simp only [Nat.reduceAdd, Act.put, List.setIfInBounds_toArray, List.set_cons_zero, List.set_cons_succ]
  refine st_call 10 #[.agg #[.int .u64 dh, .int .u64 dl]] (.agg (bv dn)) rfl rfl (fun _ => by go_simp) (c2b) ?_
  simp only [Nat.reduceAdd, Act.put, List.setIfInBounds_toArray, List.set_cons_zero, List.set_cons_succ]
  refine st_load 28 (.tmp 2) (w.heap.size) _ _ _ _ rfl rfl rfl rfl q0 Try.underlying28 rfl infoW ?_
  simp only [Nat.reduceAdd, Act.put, List.setIfInBounds_toArray, List.set_cons_zero, List.set_cons_succ]
  refine st_call 10 #[.agg #[.int .u64 xh, .int .u64 xl]] (.agg (bv (N))) rfl rfl (fun _ => by go_simp) (cb) ?_
  simp only [Nat.reduceAdd, Act.put, List.setIfInBounds_toArray, List.set_cons_zero, List.set_cons_succ]
  refine st_late (.int .i64 k) rfl rfl (fun _ => rfl) ?_
  simp only [Nat.reduceAdd, Act.put, List.setIfInBounds_toArray, List.set_cons_zero, List.set_cons_succ]
  refine st_call 23 #[.agg (bv (N)), .int .i64 k] (.agg (bv dn)) rfl rfl (fun _ => by go_simp) (c2r) ?_
  simp only [Nat.reduceAdd, Act.put, List.setIfInBounds_toArray, List.set_cons_zero, List.set_cons_succ]
  refine st_late (.bool true) rfl rfl (fun _ => by go_simp) ?_
  simp only [Nat.reduceAdd, Act.put, List.setIfInBounds_toArray, List.set_cons_zero, List.set_cons_succ]
  refine st_late (.bool true) rfl rfl (fun _ => by go_simp) ?_
  simp only [Nat.reduceAdd, Act.put, List.setIfInBounds_toArray, List.set_cons_zero, List.set_cons_succ]
  refine st_late (.bool true) rfl rfl (fun _ => rfl) ?_
  simp only [Nat.reduceAdd, Act.put, List.setIfInBounds_toArray, List.set_cons_zero, List.set_cons_succ]
  refine st_nil ?_
  intro phwe whwe hwe
  simp only [fin, List.foldl_nil]
  have hB4 := hB3.drew.trans (hwe.below.mono hB3.size)
  go_wp2
  go_ret
  exact ⟨rfl, hB4⟩
theorem shifts_pos (xh xl : Nat) (k : Nat) (hp : 0 < k) (hk : k ≤ 9223372036854775807) (h1 : H xh) (h2 : H xl) (w : World) :
    Calls Try.prog 5 #[.agg #[.int .u64 xh, .int .u64 xl], .int .i64 k] w fun e w' => e = .returned (.bool true) ∧ Below w.heap.size w w' := by
  have hN := num_lt h1 h2
  obtain ⟨l, hl, cl⟩ := len_ex xh xl h1 h2
  have wu : W128 (num xh xl * 2 ^ k % 340282366920938463463374607431768211456) := Nat.mod_lt _ (by omega)
  have wd : W128 (num xh xl / 2 ^ k) := Nat.lt_of_le_of_lt (Nat.div_le_self _ _) hN
  refine shifts_core xh xl k (num xh xl * 2 ^ k % 340282366920938463463374607431768211456) (num xh xl / 2 ^ k) _ _ _ _ l (num xh xl) w (fun W => bits_any xh xl W h1 h2) cl (fun W => len_same (num xh xl) l W hN hl)
    (fun W => shl_any xh xl k W h1 h2 hk) (fun W => shr_any xh xl k W h1 h2 hk) (fun W => bits_of _ W wu) (fun W => bits_of _ W wd) (fun W => ?_) (fun W => down_any (num xh xl) k W hN) (by omega)
  rw [bv_mod]
  exact up_any (num xh xl) k W
theorem wideShifts_walk (a : Int) (wa : (Lit.int .u64 a).wf = true) (b : Int) (wb : (Lit.int .u64 b).wf = true) (n : Int) (wn : (Lit.int .i64 n).wf = true) (w : World) :
    Calls Try.prog 5 #[.agg #[.int .u64 a, .int .u64 b], .int .i64 n] w fun e w' => e = .returned (.bool true) ∧ Below w.heap.size w w' := by
  obtain ⟨xh, rfl, h1⟩ := nat_of_wf wa
  obtain ⟨xl, rfl, h2⟩ := nat_of_wf wb
  have hn := int_of_wf wn
  by_cases hneg : n < 0
  · exact shifts_neg xh xl n hneg h1 h2 w
  by_cases h0 : n = 0
  · subst h0
    exact shifts_zero xh xl h1 h2 w
  · obtain ⟨k, rfl⟩ : ∃ k : Nat, n = k := ⟨n.toNat, by omega⟩
    exact shifts_pos xh xl k (by omega) (by omega) h1 h2 w
end Go.Proofs.Ytjniohijomoakaa.Walks
