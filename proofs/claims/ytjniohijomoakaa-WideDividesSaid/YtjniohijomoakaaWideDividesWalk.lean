/-
  The walk of WideDivides: for any number of 128 bits and any of 64 it returns true. No condition.
-/
import Derived.Test.YtjniohijomoakaaWideBackWalk
namespace Go.Proofs.Ytjniohijomoakaa.Walks
open Go.ChangeShapes Go.WideShapes Go.ChangeAt Go.RowKit
open Arr Bt Ref Wide Steady
set_option linter.unusedVariables false
set_option maxRecDepth 100000

/-- The quotient's halves times the divisor, and the rest. -/
theorem quo_parts {n d : Nat} (hn : W128 n) (h0 : 0 < d) : n / d % 18446744073709551616 * d + n / d / 18446744073709551616 * d * 2 ^ 64 = n / d * d ∧ n / d * d + n % d = n ∧ n / d / 18446744073709551616 * d < 18446744073709551616 ∧ W128 (n / d * d) := by
  have e := Nat.div_add_mod n d
  rw [Nat.mul_comm] at e
  have e2 : n / d % 18446744073709551616 * d + n / d / 18446744073709551616 * d * 2 ^ 64 = n / d * d := by
    have := Nat.div_add_mod (n / d) 18446744073709551616
    rw [Nat.mul_right_comm, ← Nat.add_mul, show (2 : Nat) ^ 64 = 18446744073709551616 from rfl, Nat.mul_comm (n / d / _), Nat.add_comm, this]
  unfold W128 at *
  refine ⟨e2, e, ?_, by omega⟩
  rw [show (2 : Nat) ^ 64 = 18446744073709551616 from rfl] at e2
  generalize n / d / 18446744073709551616 * d = x at *
  generalize n / d % 18446744073709551616 * d = y at *
  omega
theorem len_64 {h l : Nat} (hh : H h) (hl : IsLen h l) : l ≤ 64 := by
  rcases Nat.lt_or_ge 64 l with e | e
  · have := hl.2 (by omega)
    have := Nat.pow_le_pow_right (n := 2) (by omega) (show 64 ≤ l - 1 by omega)
    unfold H at hh
    omega
  · exact e
theorem len_le (h : Nat) (w : World) (hh : H h) :
    Calls Try.prog 19 #[.agg (bv h)] w fun e w' => (∃ l : Nat, e = .returned (.int .i64 l) ∧ l ≤ 64) ∧ Below w.heap.size w w' :=
  (len_any h w (by unfold H at hh; unfold W128; omega)).mono fun e w' ⟨⟨l, he, hl, _⟩, hb⟩ => ⟨⟨l, he, len_64 hh hl⟩, hb⟩
theorem add_no (a b s : Nat) (w : World) (ha : W128 a) (hb : W128 b) (hs : a + b = s) (h : W128 s) :
    Calls Try.prog 14 #[.agg (bv a), .agg (bv b)] w fun e w' => e = .returned (.tuple #[.agg (bv s), .int .i64 0]) ∧ Below w.heap.size w w' := by
  have c := add_any a b w ha hb
  rw [cy_128 ha hb, hs, Nat.div_eq_of_lt h] at c
  exact c
theorem zero_div (xh xl : Nat) (w : World) :
    Calls Try.prog 6 #[.agg #[.int .u64 xh, .int .u64 xl], .int .u64 0] w fun e w' => e = .returned (.bool true) ∧ Below w.heap.size w w' := by
  have cd := fun W => div_none xh xl W
  go_enter Try.func6, Try.ntmps6
  go_upto_region 3 with (go_at_call 9; ((with_reducible refine (anchor_any _).mono ?_); rintro e w1 ⟨rfl, g1⟩))
  have hB1 : Below w.heap.size w w1 := ((Below.refl _ _).alloc (Nat.le_refl _) _).trans (g1.mono (by simp))
  have q1 := below_row g1 (by simp) (heap_alloc_new w (.cells #[.int .u64 xh, .int .u64 xl] 28))
  clear g1
  go_wp2_with (first
    | (refine wpList_load_row rfl 28 (.tmp 2) rfl w.heap.size rfl _ _ _ _ q1 Try.underlying28 rfl infoW ?_; simp only [Act.put, List.setIfInBounds_toArray, List.set_cons_zero, List.set_cons_succ])
    | (go_at_call 24; ((with_reducible refine (cd _).mono ?_); rintro e w2 ⟨rfl, g2⟩)))
  go_ret
  exact ⟨rfl, (hB1.trans (g2.mono hB1.size)).alloc (by have := hB1.size; have := g2.size; omega) _⟩
set_option maxHeartbeats 4000000 in
theorem pos_div (xh xl d : Nat) (w : World) (h1 : H xh) (h2 : H xl) (hd : H d) (h0 : 0 < d) :
    Calls Try.prog 6 #[.agg #[.int .u64 xh, .int .u64 xl], .int .u64 d] w fun e w' => e = .returned (.bool true) ∧ Below w.heap.size w w' := by
  have hN := num_lt h1 h2
  have cd := fun W => div_halves xh xl d W h1 h2 hd h0
  have cb : ∀ W, Calls Try.prog 10 #[.agg #[.int .u64 xh, .int .u64 xl]] W fun e w' => e = .returned (.agg (bv (num xh xl))) ∧ Below W.heap.size W w' := fun W => bits_any xh xl W h1 h2
  unfold UV at cd
  obtain ⟨n, hn⟩ : ∃ n, n = num xh xl := ⟨_, rfl⟩
  rw [← hn] at hN cd cb
  obtain ⟨e1, e2, e3, e4⟩ := quo_parts hN h0
  have hr : n % d < d := Nat.mod_lt _ h0
  have hqH : H (n / d / 18446744073709551616) := hi_H (Nat.lt_of_le_of_lt (Nat.div_le_self _ _) hN)
  have cl := fun W => Ref.mul_any (n / d % 18446744073709551616) d W (lo_H _) hd
  have ch := fun W => Ref.mul_any (n / d / 18446744073709551616) d W hqH hd
  have wl : W128 (n / d % 18446744073709551616 * d) := prodW (lo_H _) hd
  have rW : W128 (n % d) := by unfold H at hd; unfold W128; omega
  have rH : H (n % d) := by unfold H at *; omega
  have wh : W128 (n / d / 18446744073709551616 * d * 2 ^ 64) := by unfold W128 at *; omega
  have clen := fun W => len_le (n / d / 18446744073709551616 * d) W e3
  have cu : ∀ W, Calls Try.prog 22 #[.agg (bv (n / d / 18446744073709551616 * d)), .int .i64 64] W fun e w' => e = .returned (.agg (bv (n / d / 18446744073709551616 * d * 2 ^ 64))) ∧ Below W.heap.size W w' := fun W => up_any _ 64 W
  have c10 := fun W => add_no _ _ _ W wl wh e1 e4
  have c11 := fun W => add_no _ _ _ W e4 rW e2 hN
  have cr := fun W => of_low (n % d) W rH
  have t1 : ((d : Int) == 0) = false := by simp; omega
  have he := eql_bv n
  generalize n / d % 18446744073709551616 * d = low at *
  generalize n / d / 18446744073709551616 * d = high at *
  generalize n / d * d = s at *
  generalize n / d / 18446744073709551616 = qh at *
  generalize n / d % 18446744073709551616 = ql at *
  generalize n % d = r at *
  have t2 : decide ((d : Int) ≤ (r : Int)) = false := decide_eq_false (by omega)
  have t2' : decide (d ≤ r) = false := decide_eq_false (by omega)
  have hz := zeroU
  have hne := zs_ne
  have hnb := bv_ne
  clear hN hn e1 e2 e3 e4 hr hqH wl rW rH wh h1 h2 hd h0
  go_enter Try.func6, Try.ntmps6
  go_upto_region 3 with (go_at_call 9; ((with_reducible refine (anchor_any _).mono ?_); rintro e w1 ⟨rfl, g1⟩))
  have hB1 : Below w.heap.size w w1 := ((Below.refl _ _).alloc (Nat.le_refl _) _).trans (g1.mono (by simp))
  have q1 := below_row g1 (by simp) (heap_alloc_new w (.cells #[.int .u64 xh, .int .u64 xl] 28))
  clear g1
  have tok : True := trivial
  go_upto_region 8 with (first
    | (refine wpList_load_row rfl 28 (.tmp 2) rfl w.heap.size rfl _ _ _ _ q1 Try.underlying28 rfl infoW ?_; simp only [Act.put, List.setIfInBounds_toArray, List.set_cons_zero, List.set_cons_succ])
    | (go_at_call 24; ((with_reducible refine (cd _).mono ?_); rintro e w2 ⟨rfl, g2⟩))
    | (have _t := tok; go_at_call 12; ((with_reducible refine (cl _).mono ?_); rintro e w3 ⟨rfl, g3⟩; have k3 := (fun o => g3.cell (p := ⟨w2.heap.size, o, none⟩) (by simp)); have k4 : w2.heap.size < w3.heap.size := (by have := g3.size; simp at this; omega); clear tok cl))
    | (go_at_call 12; ((with_reducible refine (ch _).mono ?_); rintro e w4 ⟨rfl, g4⟩; clear ch))
    | (refine wpList_store_new rfl 25 (.tmp 8) (.tmp 39) rfl (bv low) _ zs (by rfl) (by rfl) (by rw [bv_size]; exact infoU) (by rw [bv_size, zs_size]) (bv_one _) ?_; simp only [Act.put])
    | (refine wpList_store_new rfl 25 (.tmp 9) (.tmp 43) rfl (bv high) _ zs (by rfl) (by rfl) (by rw [bv_size]; exact infoU) (by rw [bv_size, zs_size]) (bv_one _) ?_; simp only [Act.put]))
  have x2 := below_row g2 (lt_of_row q1) q1
  have x3 := below_row g3 (by have := lt_of_row x2; simp; omega) (row_alloc x2 (.cells #[.int .u64 qh, .int .u64 ql] 28))
  have x4 := below_row g4 (by have := lt_of_row x3; simp; omega) (row_alloc x3 (.cells (bv low) 25))
  have a4 := below_row g4 (by simp) (heap_alloc_new w3 (.cells (bv low) 25))
  have z2 := g2.size
  have z3 := g3.size
  have z4 := g4.size
  simp only [World.size_alloc] at z3 z4
  have zz := hB1.size
  have hB4 : Below w.heap.size w w4 := (((((hB1.trans (g2.mono zz)).alloc (by omega) _).trans (g3.mono (by simp; omega))).alloc (by omega) _).trans (g4.mono (by simp; omega)))
  clear q1 x2 x3 g2 g3 g4 hB1 z2 z3 zz k3 k4 cd
  have b8 := row_alloc x4 (.cells (bv high) 25)
  have b9 := row_alloc a4 (.cells (bv high) 25)
  have b7 := heap_alloc_new w4 (.cells (bv high) 25)
  have hB5 : Below w.heap.size w (w4.alloc (.cells (bv high) 25)) := hB4.alloc hB4.size _
  clear x4 a4 hB4
  go_upto_region 10 with (first
    | (refine wpList_load_row rfl 25 (.tmp 9) rfl w4.heap.size rfl _ _ _ _ b7 Try.underlying25 rfl (by rw [bv_size]; exact infoU) ?_; simp only [Act.put, List.setIfInBounds_toArray, List.set_cons_zero, List.set_cons_succ])
    | (go_at_call 19; ((with_reducible refine (clen _).mono ?_); rintro e w5 ⟨⟨l, rfl, hl⟩, g5⟩; have hl' : (l : Int) ≤ 64 := (by omega))))
  have m2 := below_row g5 (lt_of_row b8) b8
  have l8 := below_row g5 (lt_of_row b9) b9
  have l9 := below_row g5 (lt_of_row b7) b7
  have hB6 := hB5.trans (g5.mono hB5.size)
  clear b7 b8 b9 g5 hB5 clen
  refine wp_region_steady [.plain, .plain, .plain, .plain, .late, .late, .late, .make 25 (zs) 8 (bv s), .put 7, .late] none [(7, 10)] 80 (by kernel_rfl) rfl (by kernel_rfl) (by kernel_rfl) ?_
  refine st_load 25 (.tmp 8) (w3.heap.size) _ _ _ _ rfl rfl rfl rfl l8 Try.underlying25 rfl (by rw [bv_size]; exact infoU) ?_
  simp only [Nat.reduceAdd, Act.put, List.setIfInBounds_toArray, List.set_cons_zero, List.set_cons_succ]
  refine st_load 25 (.tmp 9) (w4.heap.size) _ _ _ _ rfl rfl rfl rfl l9 Try.underlying25 rfl (by rw [bv_size]; exact infoU) ?_
  simp only [Nat.reduceAdd, Act.put, List.setIfInBounds_toArray, List.set_cons_zero, List.set_cons_succ]
  refine st_call 22 #[.agg (bv high), .int .i64 64] (.agg (bv (high * 2 ^ 64))) rfl rfl (fun _ => by go_simp) (cu) ?_
  simp only [Nat.reduceAdd, Act.put, List.setIfInBounds_toArray, List.set_cons_zero, List.set_cons_succ]
  refine st_call 14 #[.agg (bv low), .agg (bv (high * 2 ^ 64))] (.tuple #[.agg (bv s), .int .i64 0]) rfl rfl (fun _ => by go_simp) (c10) ?_
  simp only [Nat.reduceAdd, Act.put, List.setIfInBounds_toArray, List.set_cons_zero, List.set_cons_succ]
  refine st_late (.tuple #[.agg (bv s), .int .i64 0]) rfl rfl (fun _ => rfl) ?_
  simp only [Nat.reduceAdd, Act.put, List.setIfInBounds_toArray, List.set_cons_zero, List.set_cons_succ]
  refine st_late (.agg (bv s)) rfl rfl (fun _ => by go_simp) ?_
  simp only [Nat.reduceAdd, Act.put, List.setIfInBounds_toArray, List.set_cons_zero, List.set_cons_succ]
  refine st_late (.int .i64 0) rfl rfl (fun _ => by go_simp) ?_
  simp only [Nat.reduceAdd, Act.put, List.setIfInBounds_toArray, List.set_cons_zero, List.set_cons_succ]
  refine st_make 25 (zs) 8 (bv s) rfl rfl rfl zeroU ?_
  simp only [Nat.reduceAdd, Act.put, List.setIfInBounds_toArray, List.set_cons_zero, List.set_cons_succ]
  refine st_put 7 25 10 (.tmp 61) _ _ _ rfl rfl rfl rfl (by simp) rfl rfl rfl (by rw [bv_size]; exact infoU) (by rw [bv_size, zs_size]) (bv_one _) ?_
  simp only [Nat.reduceAdd]
  refine st_late (.int .i64 0) rfl rfl (fun _ => rfl) ?_
  simp only [Nat.reduceAdd, Act.put, List.setIfInBounds_toArray, List.set_cons_zero, List.set_cons_succ]
  refine st_nil ?_
  intro phwa whwa hwa
  simp only [fin, List.foldl_cons, List.foldl_nil, Act.put, List.setIfInBounds_toArray, List.set_cons_zero, List.set_cons_succ]
  have hC := hwa.below
  have l10 := (hwa.row (k := 7) (s := 8) rfl rfl rfl).2
  have n2 := below_row hC (lt_of_row m2) m2
  have hB7 := hB6.drew.trans (hC.mono hB6.size)
  clear hwa hC m2 l8 l9 hB6 cu c10
  have m2 := n2
  clear n2
  go_wp2
  refine wp_region_steady [.plain, .late, .plain, .plain, .late, .late, .late, .make 25 (zs) 8 (bv n), .put 7, .late] none [(7, 12)] 80 (by kernel_rfl) rfl (by kernel_rfl) (by kernel_rfl) ?_
  refine st_load 25 (.tmp 10) (phwa 7) _ _ _ _ rfl rfl rfl rfl l10 Try.underlying25 rfl (by rw [bv_size]; exact infoU) ?_
  simp only [Nat.reduceAdd, Act.put, List.setIfInBounds_toArray, List.set_cons_zero, List.set_cons_succ]
  refine st_late (.int .u64 r) rfl rfl (fun _ => rfl) ?_
  simp only [Nat.reduceAdd, Act.put, List.setIfInBounds_toArray, List.set_cons_zero, List.set_cons_succ]
  refine st_call 25 #[.int .u64 0, .int .u64 r] (.agg (bv r)) rfl rfl (fun _ => by go_simp) (cr) ?_
  simp only [Nat.reduceAdd, Act.put, List.setIfInBounds_toArray, List.set_cons_zero, List.set_cons_succ]
  refine st_call 14 #[.agg (bv s), .agg (bv r)] (.tuple #[.agg (bv n), .int .i64 0]) rfl rfl (fun _ => by go_simp) (c11) ?_
  simp only [Nat.reduceAdd, Act.put, List.setIfInBounds_toArray, List.set_cons_zero, List.set_cons_succ]
  refine st_late (.tuple #[.agg (bv n), .int .i64 0]) rfl rfl (fun _ => rfl) ?_
  simp only [Nat.reduceAdd, Act.put, List.setIfInBounds_toArray, List.set_cons_zero, List.set_cons_succ]
  refine st_late (.agg (bv n)) rfl rfl (fun _ => by go_simp) ?_
  simp only [Nat.reduceAdd, Act.put, List.setIfInBounds_toArray, List.set_cons_zero, List.set_cons_succ]
  refine st_late (.int .i64 0) rfl rfl (fun _ => by go_simp) ?_
  simp only [Nat.reduceAdd, Act.put, List.setIfInBounds_toArray, List.set_cons_zero, List.set_cons_succ]
  refine st_make 25 (zs) 8 (bv n) rfl rfl rfl zeroU ?_
  simp only [Nat.reduceAdd, Act.put, List.setIfInBounds_toArray, List.set_cons_zero, List.set_cons_succ]
  refine st_put 7 25 12 (.tmp 68) _ _ _ rfl rfl rfl rfl (by simp) rfl rfl rfl (by rw [bv_size]; exact infoU) (by rw [bv_size, zs_size]) (bv_one _) ?_
  simp only [Nat.reduceAdd]
  refine st_late (.int .i64 0) rfl rfl (fun _ => rfl) ?_
  simp only [Nat.reduceAdd, Act.put, List.setIfInBounds_toArray, List.set_cons_zero, List.set_cons_succ]
  refine st_nil ?_
  intro phwb whwb hwb
  simp only [fin, List.foldl_cons, List.foldl_nil, Act.put, List.setIfInBounds_toArray, List.set_cons_zero, List.set_cons_succ]
  have hC := hwb.below
  have l12 := (hwb.row (k := 7) (s := 8) rfl rfl rfl).2
  have n2 := below_row hC (lt_of_row m2) m2
  have hB8 := hB7.drew.trans (hC.mono hB7.size)
  clear hwb hC m2 hB7 l10 cr c11
  have m2 := n2
  clear n2
  go_wp2
  refine wp_region_steady [.late, .late, .late, .late, .late, .plain, .plain, .plain, .late, .late, .late] none [] 80 (by kernel_rfl) rfl (by kernel_rfl) (by kernel_rfl) ?_
  refine st_late (.int .i64 0) rfl rfl (fun _ => rfl) ?_
  simp only [Nat.reduceAdd, Act.put, List.setIfInBounds_toArray, List.set_cons_zero, List.set_cons_succ]
  refine st_late (.int .i64 0) rfl rfl (fun _ => rfl) ?_
  simp only [Nat.reduceAdd, Act.put, List.setIfInBounds_toArray, List.set_cons_zero, List.set_cons_succ]
  refine st_late (.int .i64 0) rfl rfl (fun _ => by go_simp; rfl) ?_
  simp only [Nat.reduceAdd, Act.put, List.setIfInBounds_toArray, List.set_cons_zero, List.set_cons_succ]
  refine st_late (.bool true) rfl rfl (fun _ => by go_simp) ?_
  simp only [Nat.reduceAdd, Act.put, List.setIfInBounds_toArray, List.set_cons_zero, List.set_cons_succ]
  refine st_late (.bool true) rfl rfl (fun _ => rfl) ?_
  simp only [Nat.reduceAdd, Act.put, List.setIfInBounds_toArray, List.set_cons_zero, List.set_cons_succ]
  refine st_load 25 (.tmp 12) (phwb 7) _ _ _ _ rfl rfl rfl rfl l12 Try.underlying25 rfl (by rw [bv_size]; exact infoU) ?_
  simp only [Nat.reduceAdd, Act.put, List.setIfInBounds_toArray, List.set_cons_zero, List.set_cons_succ]
  refine st_load 28 (.tmp 2) (w.heap.size) _ _ _ _ rfl rfl rfl rfl m2 Try.underlying28 rfl infoW ?_
  simp only [Nat.reduceAdd, Act.put, List.setIfInBounds_toArray, List.set_cons_zero, List.set_cons_succ]
  refine st_call 10 #[.agg #[.int .u64 xh, .int .u64 xl]] (.agg (bv n)) rfl rfl (fun _ => by go_simp) (cb) ?_
  simp only [Nat.reduceAdd, Act.put, List.setIfInBounds_toArray, List.set_cons_zero, List.set_cons_succ]
  refine st_late (.bool true) rfl rfl (fun _ => by go_simp) ?_
  simp only [Nat.reduceAdd, Act.put, List.setIfInBounds_toArray, List.set_cons_zero, List.set_cons_succ]
  refine st_late (.bool true) rfl rfl (fun _ => by go_simp) ?_
  simp only [Nat.reduceAdd, Act.put, List.setIfInBounds_toArray, List.set_cons_zero, List.set_cons_succ]
  refine st_late (.bool true) rfl rfl (fun _ => rfl) ?_
  simp only [Nat.reduceAdd, Act.put, List.setIfInBounds_toArray, List.set_cons_zero, List.set_cons_succ]
  refine st_nil ?_
  intro phwc whwc hwc
  simp only [fin, List.foldl_nil]
  have hB9 := hB8.drew.trans (hwc.below.mono hB8.size)
  go_wp2
  go_ret
  exact ⟨rfl, hB9⟩
theorem wideDivides_walk (a : Int) (wa : (Lit.int .u64 a).wf = true) (b : Int) (wb : (Lit.int .u64 b).wf = true) (c : Int) (wc : (Lit.int .u64 c).wf = true) (w : World) :
    Calls Try.prog 6 #[.agg #[.int .u64 a, .int .u64 b], .int .u64 c] w fun e w' => e = .returned (.bool true) ∧ Below w.heap.size w w' := by
  obtain ⟨xh, rfl, h1⟩ := nat_of_wf wa
  obtain ⟨xl, rfl, h2⟩ := nat_of_wf wb
  obtain ⟨d, rfl, h3⟩ := nat_of_wf wc
  rcases Nat.eq_zero_or_pos d with e | e
  · subst e; exact zero_div xh xl w
  · exact pos_div xh xl d w h1 h2 h3 e
end Go.Proofs.Ytjniohijomoakaa.Walks
