/-
  The reference's product of two numbers of 64 bits, told of natural numbers. Condition: both below 2^64.
-/
import Derived.Test.YtjniohijomoakaaWmul
import Derived.Test.YtjniohijomoakaaSteady
namespace Go.Proofs.Ytjniohijomoakaa.Ref
open Go.ChangeShapes Go.WideShapes Go.ChangeAt Go.RowKit
open Arr Bt Steady
set_option linter.unusedVariables false
set_option maxRecDepth 100000

theorem of_low (a : Nat) (W : World) (ha : a < 18446744073709551616) :
    Calls Try.prog 25 #[.int .u64 0, .int .u64 a] W fun e w' => e = .returned (.agg (bv a)) ∧ Below W.heap.size W w' := by
  have c := of_any 0 a W (by omega) ha
  rw [Nat.zero_mul, Nat.zero_add] at c
  exact c
theorem w128_lt {n : Nat} (h : n < 340282366920938463463374607431768211456) : W128 n := h
theorem prod_w128 {a b : Nat} (ha : a < 18446744073709551616) (hb : b < 18446744073709551616) : a * b < 340282366920938463463374607431768211456 := by
  have h1 := Nat.mul_le_mul (Nat.le_sub_one_of_lt ha) (Nat.le_sub_one_of_lt hb)
  omega
theorem zs_bv : zs = bv 0 := ints_congr 128 _ _ (fun i _ => by rw [bt_zero]; rfl)
/-- The product so far. -/
def pp (a b i : Nat) : Nat := a * (b % 2 ^ i)
theorem pp_zero (a b : Nat) : pp a b 0 = 0 := by simp [pp, Nat.mod_one]
theorem pp_step (a b i : Nat) (h : bt b i = 1) : pp a b (i + 1) = pp a b i + a * 2 ^ i := by
  unfold pp; rw [mod_bt, h, Nat.mul_add, Nat.mul_one]
theorem pp_same (a b i : Nat) (h : bt b i = 0) : pp a b (i + 1) = pp a b i := by
  unfold pp; rw [mod_bt, h, Nat.mul_zero, Nat.add_zero]
theorem pp_lt {a b : Nat} (ha : a < 18446744073709551616) (hb : b < 18446744073709551616) (i : Nat) : W128 (pp a b i) := by
  have h1 : b % 2 ^ i < 18446744073709551616 := Nat.lt_of_le_of_lt (Nat.mod_le _ _) hb
  exact prod_w128 ha h1
theorem pp_all {a b : Nat} (hb : b < 18446744073709551616) : pp a b 64 = a * b := by
  unfold pp; rw [Nat.mod_eq_of_lt (show b < 2 ^ 64 from hb)]
theorem sh_lt {a i : Nat} (ha : a < 18446744073709551616) (hi : i < 64) : W128 (a * 2 ^ i) := by
  have h1 : 2 ^ i < 2 ^ 64 := Nat.pow_lt_pow_right (by omega) hi
  exact prod_w128 ha h1

set_option maxHeartbeats 1000000 in
theorem mul_any (a b : Nat) (w : World) (ha : a < 18446744073709551616) (hb : b < 18446744073709551616) :
    Calls Try.prog 12 #[.int .u64 a, .int .u64 b] w fun e w' => e = .returned (.agg (bv (a * b))) ∧ Below w.heap.size w w' := by
  have ca := fun W => of_low a W ha
  have cb := fun W => of_low b W hb
  have HA := Lib.hid ha
  have HB := Lib.hid hb
  clear ha hb
  have hz := zeroU
  have hne := bv_ne
  go_enter Try.func12, Try.ntmps12
  go_wp2_with (first
    | (go_at_call 25; ((with_reducible refine (ca _).mono ?_); rintro e w1 ⟨rfl, h1⟩; clear ca))
    | (go_at_call 25; ((with_reducible refine (cb _).mono ?_); rintro e w2 ⟨rfl, h2⟩; clear cb))
    | (refine wpList_store_new rfl 25 (.tmp 5) (.tmp 10) rfl (bv a) _ zs (by rfl) (by rfl) (by rw [bv_size]; exact infoU) (by rw [bv_size, zs_size]) (bv_one _) ?_; simp only [Act.put])
    | (refine wpList_store_new rfl 25 (.tmp 6) (.tmp 12) rfl (bv b) _ zs (by rfl) (by rfl) (by rw [bv_size]; exact infoU) (by rw [bv_size, zs_size]) (bv_one _) ?_; simp only [Act.put]))
  have s1 := h1.size
  have s2 := h2.size
  simp only [World.size_alloc] at s1 s2
  have r0 : ((w2.alloc (.cells (bv b) 25)).alloc (.cells zs 25)).heap[w.heap.size]? = some (.cells zs 25 (0, 0)) :=
    row_alloc (row_alloc (below_row h2 (by simp; omega) (row_alloc (below_row h1 (by simp) (heap_alloc_new _ _)) _)) _) _
  have r1 : ((w2.alloc (.cells (bv b) 25)).alloc (.cells zs 25)).heap[w1.heap.size]? = some (.cells (bv a) 25 (0, 0)) :=
    row_alloc (row_alloc (below_row h2 (by simp) (heap_alloc_new _ _)) _) _
  have r2 : ((w2.alloc (.cells (bv b) 25)).alloc (.cells zs 25)).heap[w2.heap.size]? = some (.cells (bv b) 25 (0, 0)) := heap_alloc2_old _ _ _
  have r3 : ((w2.alloc (.cells (bv b) 25)).alloc (.cells zs 25)).heap[w2.heap.size + 1]? = some (.cells (bv (pp a b 0)) 25 (0, 0)) := by rw [pp_zero, ← zs_bv]; exact heap_alloc2_new _ _ _
  have hB : Below w.heap.size w ((w2.alloc (.cells (bv b) 25)).alloc (.cells zs 25)) :=
    ((((((Below.refl _ _).alloc (Nat.le_refl _) _).trans (h1.mono (by simp))).alloc (by omega) _).trans (h2.mono (by simp; omega))).alloc (by omega) _).alloc (by simp; omega) _
  generalize (w2.alloc (.cells (bv b) 25)).alloc (.cells zs 25) = V at *
  clear h1 h2
  go_loopg [8] 64 (fun g s8 wr => ∃ i : Nat, i + g = 64 ∧ s8 = .int .i64 i ∧ Below w.heap.size w wr ∧ wr.heap[w.heap.size]? = some (.cells zs 25 (0, 0)) ∧ wr.heap[w1.heap.size]? = some (.cells (bv a) 25 (0, 0)) ∧
    wr.heap[w2.heap.size]? = some (.cells (bv b) 25 (0, 0)) ∧ wr.heap[w2.heap.size + 1]? = some (.cells (bv (pp a b i)) 25 (0, 0)))
  case atStart => exact ⟨0, rfl, rfl, hB, r0, r1, r2, r3⟩
  case round =>
    obtain ⟨i, hig, rfl, hb, q0, q1, q2, q3⟩ := hrel
    clear r0 r1 r2 r3 hB
    cases gk with
    | zero =>
      obtain rfl : i = 64 := by omega
      rw [pp_all HB.out] at q3
      go_wp2_with (first
        | (refine wpList_load_row rfl 25 (.tmp 7) rfl (w2.heap.size + 1) rfl _ _ _ _ q3 Try.underlying25 rfl (by rw [bv_size]; exact infoU) ?_; simp only [Act.put, List.setIfInBounds_toArray, List.set_cons_zero, List.set_cons_succ])
        | (refine wpList_store_whole rfl 25 (.tmp 4) (.tmp 29) rfl w.heap.size (bv (a * b)) (by rfl) (by rfl) _ _ q0 (by rw [bv_size]; exact infoU) (by rw [bv_size, zs_size]) (bv_one _) ?_; apply wpList_nil; (repeat go_step); refine bodyPost_ret (v := .agg (bv (a * b))) (results_cell_row rfl _ _ w.heap.size _ _ _ _ rfl (setRow_heap _ _ _ (bv (a * b)) _ _ q0) Try.underlying25 rfl (by rw [bv_size]; exact infoU)) rfl ⟨rfl, below_setRow hb (Nat.le_refl _) _⟩))
    | succ g =>
      have hlt : i < 64 := by omega
      have c2 := cell_bv q2 (i := i) (by omega)
      have b2 := bt_le b i
      by_cases h1 : bt b i = 1
      · rw [h1] at c2
        have e1 := pp_step a b i h1
        have HE := Lib.hid e1
        clear e1 h1 b2
        have cu := fun W => up_any a i W
        have cp := fun W => add_any (pp a b i) (a * 2 ^ i) W (pp_lt HA.out HB.out i) (sh_lt HA.out hlt)
        rw [← HE.out] at cp
        go_wp2
        refine wp_region_steady [.plain, .plain, .late, .plain, .plain, .late, .late, .late, .over] (some ⟨8, w2.heap.size + 1, 25, bv (pp a b i), bv (pp a b (i + 1))⟩) [] 30 (by kernel_rfl) rfl (by kernel_rfl) (by kernel_rfl) ?_
        refine st_load 25 (.tmp 7) (w2.heap.size + 1) _ _ _ _ rfl rfl rfl rfl q3 Try.underlying25 rfl (by rw [bv_size]; exact infoU) ?_
        simp only [Act.put, List.setIfInBounds_toArray, List.set_cons_zero, List.set_cons_succ]
        refine st_load 25 (.tmp 5) w1.heap.size _ _ _ _ rfl rfl rfl rfl q1 Try.underlying25 rfl (by rw [bv_size]; exact infoU) ?_
        simp only [Act.put, List.setIfInBounds_toArray, List.set_cons_zero, List.set_cons_succ]
        refine st_late (.int .i64 i) rfl rfl (fun _ => rfl) ?_
        simp only [Act.put, List.setIfInBounds_toArray, List.set_cons_zero, List.set_cons_succ]
        refine st_call 22 #[.agg (bv a), .int .i64 i] _ rfl rfl (fun _ => by go_simp) cu ?_
        simp only [Act.put, List.setIfInBounds_toArray, List.set_cons_zero, List.set_cons_succ]
        refine st_call 14 #[.agg (bv (pp a b i)), .agg (bv (a * 2 ^ i))] _ rfl rfl (fun _ => by go_simp) cp ?_
        simp only [Act.put, List.setIfInBounds_toArray, List.set_cons_zero, List.set_cons_succ]
        refine st_late (.tuple #[.agg (bv (pp a b (i + 1))), .int .i64 (cy (pp a b i) (a * 2 ^ i) 128)]) rfl rfl (fun _ => rfl) ?_
        simp only [Act.put, List.setIfInBounds_toArray, List.set_cons_zero, List.set_cons_succ]
        refine st_late (.agg (bv (pp a b (i + 1)))) rfl rfl (fun _ => by go_simp) ?_
        simp only [Act.put, List.setIfInBounds_toArray, List.set_cons_zero, List.set_cons_succ]
        refine st_late (.int .i64 (cy (pp a b i) (a * 2 ^ i) 128)) rfl rfl (fun _ => by go_simp) ?_
        simp only [Act.put, List.setIfInBounds_toArray, List.set_cons_zero, List.set_cons_succ]
        refine st_over _ 25 (.tmp 7) (.tmp 27) rfl rfl rfl rfl rfl rfl rfl rfl q3 (by rw [bv_size]; exact infoU) (by rw [bv_size, bv_size]) (bv_one _) ?_
        refine st_nil ?_
        intro ps w' hwd
        have hB' := hwd.belowOver rfl
        clear hwd
        simp only [fin, List.foldl_nil]
        have z0 := lt_of_row q0
        have z1 := lt_of_row q1
        have z2 := lt_of_row q2
        have z3 := lt_of_row q3
        go_wp2
        go_roundg g
        case measure => omega
        case rel =>
          refine ⟨i + 1, by omega, by go_num, (below_setRow hb.drew (by omega) _).trans (hB'.mono (by show _ ≤ wr.heap.size; omega)), ?_, ?_, ?_, ?_⟩
          · exact below_row hB' z0 ((setRow_other _ _ _ _ (by omega)).trans q0)
          · exact below_row hB' z1 ((setRow_other _ _ _ _ (by omega)).trans q1)
          · exact below_row hB' z2 ((setRow_other _ _ _ _ (by omega)).trans q2)
          · exact below_row hB' z3 (setRow_heap _ _ _ _ _ _ q3)
      · have h0 : bt b i = 0 := by omega
        rw [h0] at c2
        have HE := Lib.hid (pp_same a b i h0)
        clear h0 h1 b2
        go_wp2
        go_roundg g
        case measure => omega
        case rel => exact ⟨i + 1, by omega, by go_num, hb, q0, q1, q2, by rw [HE.out]; exact q3⟩
end Go.Proofs.Ytjniohijomoakaa.Ref
